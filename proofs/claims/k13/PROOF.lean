import PyProof.Rows.All
import Wide.All
import OpenK.AllK
import Wide.FinOn
import Lean
import PyProof.EqAt
import PyProof.EqKinds
import PyProof.TupleCall
import PyProof.StrLawsIn
import PyProof.StationsW
import PyProof.NeData
import OpenK.KOwn
import PyProof.NsDelKeeps
import PyProof.ExcArgsOwn
import PyProof.ExcAttrAll.ValueError
import PyProof.IsiH_tuple
import KE.KIsAll
import PySem.Challenge.RW_trunksay_k13_statement_texts_refused
-- CHANGE: your row's module here, as the last of these rows
set_option Elab.async false
set_option linter.all false
set_option maxRecDepth 100000
namespace L2
open PySem PySem.Spec PyProof.Rows

/-- a key: an int or a str -/
abbrev Key := Sum Int Str
def keyIs : Key → Value → Bool
  | .inl k, v => Value.isInt k v
  | .inr x, v => Value.isStrOf x v
def keyH (w : World) : Key → Int
  | .inl k => hashInt k
  | .inr x => hashStr w x
theorem keyIs_shape : ∀ {k : Key} {v : Value}, keyIs k v = true → (∃ i t, k = Sum.inl i ∧ v = Value.int i t) ∨ (∃ x t, k = Sum.inr x ∧ v = Value.str x t)
  | .inl i, v, h => by
    obtain ⟨t, e⟩ := Value.isInt_shape (k := i) (v := v) h
    exact .inl ⟨i, t, rfl, e⟩
  | .inr x, v, h => by
    obtain ⟨t, e⟩ := Value.isStrOf_shape (x := x) (v := v) h
    exact .inr ⟨x, t, rfl, e⟩
theorem key_ll (a b : Int) : decide ((Sum.inl a : Key) = Sum.inl b) = (a == b) := by
  by_cases e : a = b
  · subst e; simp
  · have h : ¬ (Sum.inl a : Key) = Sum.inl b := fun q => e (Sum.inl.inj q)
    rw [decide_eq_false h]
    exact (beq_eq_false_iff_ne.mpr e).symm
theorem key_rr (a b : Str) : decide ((Sum.inr a : Key) = Sum.inr b) = decide (a = b) := by
  by_cases e : a = b
  · subst e; simp
  · have h : ¬ (Sum.inr a : Key) = Sum.inr b := fun q => e (Sum.inr.inj q)
    rw [decide_eq_false h, decide_eq_false e]
theorem key_lr (a : Int) (b : Str) : decide ((Sum.inl a : Key) = Sum.inr b) = false := decide_eq_false (fun q => nomatch q)
theorem key_rl (a : Str) (b : Int) : decide ((Sum.inr a : Key) = Sum.inl b) = false := decide_eq_false (fun q => nomatch q)

def mixKind (prog : Program) (w : World) : PySem.KeyKind prog w Key where
  is := keyIs
  hash := keyH w
  inj := fun v a b ha hb => by
    rcases keyIs_shape ha with ⟨i, t, rfl, rfl⟩ | ⟨x, t, rfl, rfl⟩
    · rcases keyIs_shape hb with ⟨j, u, rfl, e⟩ | ⟨y, u, rfl, e⟩
      · injection e with e1 _; rw [e1]
      · exact nomatch e
    · rcases keyIs_shape hb with ⟨j, u, rfl, e⟩ | ⟨y, u, rfl, e⟩
      · exact nomatch e
      · injection e with e1 _; rw [e1]
  byValue := fun k v h => by
    rcases keyIs_shape h with ⟨i, t, rfl, rfl⟩ | ⟨x, t, rfl, rfl⟩ <;> rfl
  pyHash := fun hv h => by
    rcases keyIs_shape hv with ⟨i, t, rfl, rfl⟩ | ⟨x, t, rfl, rfl⟩
    · exact wpAny_pyHash_int h
    · exact wpAny_pyHash_str h
  eqBool := fun hu hv h => by
    rcases keyIs_shape hu with ⟨i, t, rfl, rfl⟩ | ⟨x, t, rfl, rfl⟩
    · rcases keyIs_shape hv with ⟨j, u, rfl, rfl⟩ | ⟨y, u, rfl, rfl⟩
      · rw [key_ll] at h; exact wpAny_eqBool_int h
      · rw [key_lr] at h; exact SeqAt.EqAt.int_str i t y u _ _ _ _ h
    · rcases keyIs_shape hv with ⟨j, u, rfl, rfl⟩ | ⟨y, u, rfl, rfl⟩
      · rw [key_rl] at h; exact SeqAt.EqAt.str_int x t j u _ _ _ _ h
      · rw [key_rr] at h; exact wpAny_eqBool_str h
  «strs» := fun k x t v h => by
    rcases keyIs_shape h with ⟨i, u, rfl, e⟩ | ⟨y, u, rfl, e⟩
    · exact nomatch e
    · injection e with e1 _
      subst e1
      cases v <;> rfl

end L2

namespace L2
open PySem PySem.Spec PyProof.Rows

/-- a value, without the heap -/
inductive V where
  | non | bl (b : Bool) | int (i : Int) | str (x : Str) | byt (b : Array UInt8) | flt (b : UInt64) | ref (a : Addr) | ty (n : String)
  deriving DecidableEq

def RelV : V → Value → Prop
  | .non, u => u = Value.none
  | .bl b, u => u = Value.bool b
  | .int i, u => ∃ t, u = Value.int i t
  | .str x, u => ∃ t, u = Value.str x t
  | .byt b, u => ∃ t, u = Value.bytes b t
  | .flt b, u => ∃ t, u = Value.float b t
  | .ref a, u => u = Value.ref a
  | .ty n, u => u = Value.type n

abbrev Vals : List V → List Value → Prop := Paired RelV
theorem Vals.length {xs : List V} {us : List Value} (r : Vals xs us) : xs.length = us.length := Paired.length r
theorem Vals.get : ∀ {xs : List V} {us : List Value} {i : Nat} {x : V}, Vals xs us → xs[i]? = some x → ∃ u, us[i]? = some u ∧ RelV x u
  | _, _, _, _, .nil, e => by simp at e
  | _, _, 0, _, .cons r _, e => by simp at e; subst e; exact ⟨_, rfl, r⟩
  | _, _, i + 1, x, .cons _ t, e => by
    obtain ⟨u, h1, h2⟩ := Vals.get (i := i) (x := x) t (by simpa using e)
    exact ⟨u, by simpa using h1, h2⟩
theorem Vals.set {x : V} {u : Value} (r : RelV x u) : ∀ {xs : List V} {us : List Value} (i : Nat), Vals xs us → Vals (xs.set i x) (us.set i u)
  | _, _, _, .nil => .nil
  | _, _, 0, .cons _ t => .cons r t
  | _, _, i + 1, .cons q t => .cons q (Vals.set r i t)
theorem Vals.append : ∀ {xs ys : List V} {us ws : List Value}, Vals xs us → Vals ys ws → Vals (xs ++ ys) (us ++ ws)
  | _, _, _, _, .nil, s => s
  | _, _, _, _, .cons r t, s => .cons r (Vals.append t s)
theorem Vals.take : ∀ {xs : List V} {us : List Value} (n : Nat), Vals xs us → Vals (xs.take n) (us.take n)
  | _, _, 0, _ => .nil
  | _, _, _ + 1, .nil => .nil
  | _, _, n + 1, .cons r t => .cons r (Vals.take n t)
theorem Vals.drop : ∀ {xs : List V} {us : List Value} (n : Nat), Vals xs us → Vals (xs.drop n) (us.drop n)
  | _, _, 0, r => r
  | _, _, _ + 1, .nil => .nil
  | _, _, n + 1, .cons _ t => Vals.drop n t
def RelO : Option V → Option Value → Prop
  | some v, some u => RelV v u
  | none, none => True
  | _, _ => False
def KV {κ : Type} : List (κ × V) → List (κ × Value) → Prop := Paired fun (p : κ × V) (q : κ × Value) => p.1 = q.1 ∧ RelV p.2 q.2

/-- a key of a dict (00_mix): an int or a text -/
def kV : Key → V
  | .inl i => .int i
  | .inr x => .str x

/-- what stands at a tracked address -/
inductive HO where
  /-- a list -/
  | lst (xs : List V)
  /-- a tuple (never changes) -/
  | tup (xs : List V)
  /-- a dict whose keys are ints and texts; one whose keys are tuples of ints and texts (the empty one is both) -/
  | dK (kvs : List (Key × V)) | dT (kvs : List (List Key × V))
  /-- a set of ints: its members, its size -/
  | set (S : Int → Bool) (n : Nat)
  /-- an instance of the class at C, its dict at dx, its attributes -/
  | ins (C dx : Addr) (fs : List (Str × V))
  /-- the dict of the instance at x -/
  | own (x : Addr)
  /-- the dict of an exception -/
  | xd (fs : List (Str × V))
  /-- a bound method, f of x -/
  | met (f x : Addr)
  /-- a range object lo, lo + 1, .. below hi -/
  | rng (lo hi : Int)
  /-- a thing that is known to the object (the script; a dict while a loop walks it): read, never written while it is so -/
  | frz (o : Obj) (u : HO)
  /-- a code object's table -/
  | tbl (ps : Array Value)
  /-- any other thing, by what is true of its one object (a def of one's own: SetO a S n := HO.ext fun h => ..) -/
  | ext (φ : Heap → Prop)

abbrev Hp := Addr → Option HO
def upd (H : Hp) (a : Addr) (o : HO) : Hp := fun b => if b = a then some o else H b
theorem upd_same {H : Hp} {a : Addr} {o : HO} : upd H a o a = some o := by unfold upd; rw [if_pos rfl]
theorem upd_ne {H : Hp} {a b : Addr} {o : HO} (h : b ≠ a) : upd H a o b = H b := by unfold upd; rw [if_neg h]
theorem ne_of_none {H : Hp} {a b : Addr} {o : HO} (h : H a = some o) (h' : H b = none) : a ≠ b := by
  intro e; subst e; rw [h] at h'; cases h'

section
variable (P : Program) (w : World)
def ObjOk (H : Hp) (h : Heap) (a : Addr) : HO → Prop
  | .lst xs => xs.length ≤ sizeLine ∧ ∃ (its : List Value) (n : Nat), Vals xs its ∧ h.get? a = some { cls := .type "list", data := .seq its.toArray n }
  | .tup xs => xs.length ≤ sizeLine ∧ ∃ its : List Value, Vals xs its ∧ IsTup h a its.toArray
  | .dK kvs => kvs.length ≤ sizeLine ∧ (a == sysModules) = false ∧ ∃ vs, KV kvs vs ∧ h.DictOf (mixKind P w) a vs
  | .dT kvs => kvs.length ≤ sizeLine ∧ (a == sysModules) = false ∧ ∃ xs : List (List Key × Addr × Value),
      Paired (fun (p : List Key × V) (q : List Key × Addr × Value) => p.1 = q.1 ∧ H q.2.1 = some (.tup (p.1.map kV)) ∧ RelV p.2 q.2.2) kvs xs ∧
      ∃ o es ep, h.get? a = some o ∧ o.ExactDict ∧ o.data = .dict es ep ∧ es.toList = xs.map (entryOfKey (tupleKind (mixKind P w))) ∧ (xs.map (·.1)).Nodup
  | .set S n => h.SetOf (intKind P w) a S n
  | .ins C dx fs => H dx = some (.own a) ∧ fs.length ≤ 1000 ∧ dx ≠ a ∧ h.get? a = some (PySem.W.instObj C dx) ∧
      ∃ mA, h.Ns1 dx mA ∧ (∀ f, RelO (fs.lookup f) (mA f)) ∧ PySem.Within mA (fs.map (·.1))
  | .own _ => ∃ o, h.get? a = some o
  | .xd fs => ∃ mA, h.Ns1 a mA ∧ ∀ f, RelO (fs.lookup f) (mA f)
  | .rng lo hi => ∃ t u v, h.get? a = some { cls := .type "range", data := .fields #[.int lo t, .int hi u, .int 1 v] }
  | .frz o u => h.get? a = some o ∧ ObjOk H h a u
  | .tbl ps => h.get? a = some { cls := .none, data := .fields ps }
  | .met f x => h.get? a = some (PySem.W.methodObj (.ref f) (.ref x))
  | .ext φ => φ h ∧ (∃ o, h.get? a = some o) ∧ ∀ h1 h2 : Heap, φ h1 → (∀ o, h1.get? a = some o → h2.get? a = some o) → φ h2
/-- the abstract heap is held -/
def HOk (H : Hp) (h : Heap) : Prop := ∀ a o, H a = some o → ObjOk P w H h a o
end

section
variable {P : Program} {w : World} {H H' : Hp} {h h' : Heap} {a : Addr} {o : HO}
theorem ObjOk.lt (x : ObjOk P w H h a o) : a < h.objs.size := by
  cases o with
  | lst xs => obtain ⟨_, _, _, _, e⟩ := x; exact Heap.lt_size e
  | tup xs => obtain ⟨_, _, _, p⟩ := x; exact p.lt
  | dK kvs => obtain ⟨_, _, _, _, o, _, _, e, _⟩ := x; exact Heap.lt_size e
  | dT kvs => obtain ⟨_, _, _, _, o, _, _, e, _⟩ := x; exact Heap.lt_size e
  | set S n => obtain ⟨o, _, _, _, e, _⟩ := x; exact Heap.lt_size e
  | ins C dx fs => obtain ⟨_, _, _, e, _⟩ := x; exact Heap.lt_size e
  | own y => obtain ⟨_, e⟩ := x; exact Heap.lt_size e
  | xd fs => obtain ⟨_, ⟨_, _, _, e, _⟩, _⟩ := x; exact Heap.lt_size e
  | rng lo hi => obtain ⟨_, _, _, e⟩ := x; exact Heap.lt_size e
  | frz ob u => obtain ⟨e, _⟩ := x; exact Heap.lt_size e
  | tbl ps => exact Heap.lt_size (show h.get? a = some _ from x)
  | met f y => exact Heap.lt_size (show h.get? a = some _ from x)
  | ext φ => obtain ⟨_, ⟨_, e⟩, _⟩ := x; exact Heap.lt_size e
theorem Paired.mapP {α β : Type} {F G : α → β → Prop} : ∀ {l₁ : List α} {l₂ : List β}, Paired F l₁ l₂ → (∀ a b, F a b → G a b) → Paired G l₁ l₂
  | _, _, .nil, _ => .nil
  | _, _, .cons r t, f => .cons (f _ _ r) (Paired.mapP t f)
/-- what an object's description leans on: its own object, its own dict, the tuples -/
theorem ObjOk.stay (x : ObjOk P w H h a o) (k : ∀ b u, (b = a ∨ H b = some (.own a)) → h.get? b = some u → h'.get? b = some u)
    (ho : ∀ b, H b = some (.own a) → H' b = some (.own a)) (ht : ∀ b xs, H b = some (.tup xs) → H' b = some (.tup xs)) : ObjOk P w H' h' a o := by
  induction o with
  | lst xs => obtain ⟨z, its, n, r, e⟩ := x; exact ⟨z, its, n, r, k _ _ (.inl rfl) e⟩
  | tup xs => obtain ⟨z, its, r, ob, e, c⟩ := x; exact ⟨z, its, r, ob, k _ _ (.inl rfl) e, c⟩
  | dK kvs => obtain ⟨z, y, vs, r, ob, es, ep, e, c⟩ := x; exact ⟨z, y, vs, r, ob, es, ep, k _ _ (.inl rfl) e, c⟩
  | dT kvs =>
    obtain ⟨z, y, xs, r, ob, es, ep, e, c⟩ := x
    exact ⟨z, y, xs, Paired.mapP r fun p q z => ⟨z.1, ht _ _ z.2.1, z.2.2⟩, ob, es, ep, k _ _ (.inl rfl) e, c⟩
  | set S n => obtain ⟨ob, es, ep, t, e, c⟩ := x; exact ⟨ob, es, ep, t, k _ _ (.inl rfl) e, c⟩
  | ins C dx fs =>
    obtain ⟨d, z, ne, e, mA, ⟨od, es, ep, e2, c⟩, r⟩ := x
    exact ⟨ho _ d, z, ne, k _ _ (.inl rfl) e, mA, ⟨od, es, ep, k _ _ (.inr d) e2, c⟩, r⟩
  | own y => obtain ⟨ob, e⟩ := x; exact ⟨ob, k _ _ (.inl rfl) e⟩
  | xd fs => obtain ⟨mA, ⟨od, es, ep, e, c⟩, r⟩ := x; exact ⟨mA, ⟨od, es, ep, k _ _ (.inl rfl) e, c⟩, r⟩
  | rng lo hi => obtain ⟨t, u, v, e⟩ := x; exact ⟨t, u, v, k _ _ (.inl rfl) e⟩
  | frz ob u ih => obtain ⟨e, q⟩ := x; exact ⟨k _ _ (.inl rfl) e, ih q⟩
  | tbl ps =>
    have e : h.get? a = some { cls := .none, data := .fields ps } := x
    show h'.get? a = some { cls := .none, data := .fields ps }
    exact k a _ (.inl rfl) e
  | met f y =>
    have e : h.get? a = some (PySem.W.methodObj (.ref f) (.ref y)) := x
    show h'.get? a = some (PySem.W.methodObj (.ref f) (.ref y))
    exact k a _ (.inl rfl) e
  | ext φ => obtain ⟨p, ⟨o, e⟩, st⟩ := x; exact ⟨st _ _ p fun o q => k _ _ (.inl rfl) q, ⟨o, k _ _ (.inl rfl) e⟩, st⟩
theorem HOk.lt (x : HOk P w H h) (e : H a = some o) : a < h.objs.size := (x a o e).lt
theorem HOk.fresh (x : HOk P w H h) (e : h.objs.size ≤ a) : H a = none := by
  cases q : H a with
  | none => rfl
  | some u => exact absurd (Nat.lt_of_lt_of_le (x.lt q) e) (Nat.lt_irrefl _)
/-- every object of the heap is kept -/
theorem HOk.kept (x : HOk P w H h) (k : ∀ b u, h.get? b = some u → h'.get? b = some u) : HOk P w H h' := fun a o e =>
  (x a o e).stay (fun b u _ q => k b u q) (fun _ q => q) fun _ _ q => q
/-- a new object is laid and tracked -/
theorem HOk.laid (x : HOk P w H h) (k : ∀ b u, h.get? b = some u → h'.get? b = some u) (hp : h.objs.size ≤ a) (new : ObjOk P w (upd H a o) h' a o) : HOk P w (upd H a o) h' := fun b u e => by
  have hn := x.fresh hp
  by_cases hb : b = a
  · subst hb; rw [upd_same] at e; cases e; exact new
  · rw [upd_ne hb] at e
    exact (x b u e).stay (fun c v _ q => k c v q) (fun c q => by rw [upd_ne (ne_of_none q hn)]; exact q) fun c xs q => by rw [upd_ne (ne_of_none q hn)]; exact q
end

/-- what may be read as u: it is u, or a known u -/
def Rd (H : Hp) (a : Addr) (u : HO) : Prop := H a = some u ∨ ∃ o, H a = some (.frz o u)
theorem Rd.of {H : Hp} {a : Addr} {u : HO} (h : H a = some u) : Rd H a u := .inl h
theorem Rd.ok {P : Program} {w : World} {H : Hp} {h : Heap} {a : Addr} {u : HO} (r : Rd H a u) (x : HOk P w H h) : ObjOk P w H h a u := by
  rcases r with r | ⟨o, r⟩
  · exact x a u r
  · obtain ⟨_, q⟩ := x a _ r
    exact q
/-- what may be written -/
def Mut : Option HO → Prop
  | some (.lst _) => True
  | some (.dK _) => True
  | some (.dT _) => True
  | some (.set _ _) => True
  | some (.ins _ _ _) => True
  | some (.ext _) => True
  | _ => False
section
variable {P : Program} {w : World} {H : Hp} {h h' : Heap} {x e : Addr} {o' : HO}
/-- the object at e is changed: x itself, or the dict of the instance x -/
theorem HOk.write (ok : HOk P w H h) (mu : Mut (H x)) (he : e = x ∨ H e = some (.own x)) (k : ∀ b u, b ≠ e → h.get? b = some u → h'.get? b = some u) (heo : ∃ u, h'.get? e = some u)
    (new : ObjOk P w (upd H x o') h' x o') : HOk P w (upd H x o') h' := fun b u q => by
  have nown : ∀ c y, H c = some (.own y) → c ≠ x := fun c y r z => by subst z; rw [r] at mu; exact mu
  have ntup : ∀ c xs, H c = some (.tup xs) → c ≠ x := fun c xs r z => by subst z; rw [r] at mu; exact mu
  by_cases hb : b = x
  · subst hb; rw [upd_same] at q; cases q; exact new
  · rw [upd_ne hb] at q
    by_cases hbe : b = e
    · have q' : H b = some (.own x) := by
        rcases he with z | z
        · exact absurd (hbe.trans z) hb
        · rw [hbe]; exact z
      rw [q] at q'; cases q'
      obtain ⟨v, hv⟩ := heo
      exact ⟨v, by rw [hbe]; exact hv⟩
    · refine (ok b u q).stay (fun c v hc r => k c v ?_ r) (fun c r => by rw [upd_ne (nown c b r)]; exact r) fun c xs r => by rw [upd_ne (ntup c xs r)]; exact r
      rcases hc with rfl | hc
      · exact hbe
      · rintro rfl
        rcases he with z | z
        · exact nown c b hc z
        · rw [hc] at z; cases z; exact hb rfl
end

structure Un (fs ex : List Addr) (H H' : Hp) (h h' : Heap) : Prop where
  keep : ∀ b o, h.get? b = some o → H b = none → b ∉ fs → b ∉ ex → h'.get? b = some o
  slot : ∀ b o, h.get? b = some o → H b = none → b ∈ fs → b ∉ ex → ∃ sl, h'.get? b = some { o with slots := sl }
  free : ∀ b o, h.get? b = some o → H b = none → b ∉ ex → H' b = none
  there : ∀ b o, h.get? b = some o → b ∉ ex → ∃ o', h'.get? b = some o'
  tups : ∀ b xs, H b = some (.tup xs) → H' b = some (.tup xs)
  frzs : ∀ b o u, H b = some (.frz o u) → H' b = some (.frz o u)
  tbls : ∀ b ps, H b = some (.tbl ps) → ∃ more, H' b = some (.tbl (ps ++ more))
section
variable {fs fs' ex ex' : List Addr} {H H1 H2 : Hp} {h h1 h2 h' : Heap} {a x e : Addr} {o : HO}
theorem Un.any (u : Un fs ex H H1 h h1) {b : Addr} {ob : Obj} (q : h.get? b = some ob) (n : H b = none) (hx : b ∉ ex) : ∃ sl, h1.get? b = some { ob with slots := sl } := by
  by_cases hb : b ∈ fs
  · exact u.slot b ob q n hb hx
  · exact ⟨ob.slots, u.keep b ob q n hb hx⟩
theorem Un.trans (a : Un fs ex H H1 h h1) (b : Un fs ex H1 H2 h1 h2) : Un fs ex H H2 h h2 where
  keep := fun c ob q n hc hx => b.keep c ob (a.keep c ob q n hc hx) (a.free c ob q n hx) hc hx
  slot := fun c ob q n hc hx => by
    obtain ⟨sl, e1⟩ := a.slot c ob q n hc hx
    obtain ⟨sl', e2⟩ := b.slot c _ e1 (a.free c ob q n hx) hc hx
    exact ⟨sl', e2⟩
  free := fun c ob q n hx => by
    obtain ⟨o', e1⟩ := a.there c ob q hx
    exact b.free c o' e1 (a.free c ob q n hx) hx
  there := fun c ob q hx => by
    obtain ⟨o', e1⟩ := a.there c ob q hx
    exact b.there c o' e1 hx
  tups := fun c xs q => b.tups c xs (a.tups c xs q)
  frzs := fun c ob xs q => b.frzs c ob xs (a.frzs c ob xs q)
  tbls := fun c ps q => by
    obtain ⟨m1, e1⟩ := a.tbls c ps q
    obtain ⟨m2, e2⟩ := b.tbls c _ e1
    exact ⟨m1 ++ m2, by rw [e2, Array.append_assoc]⟩
theorem Un.kept (k : ∀ b u, h.get? b = some u → h'.get? b = some u) : Un fs ex H H h h' :=
  ⟨fun b ob q _ _ _ => k b ob q, fun b ob q _ _ _ => ⟨ob.slots, k b ob q⟩, fun _ _ _ n _ => n, fun b ob q _ => ⟨ob, k b ob q⟩, fun _ _ q => q, fun _ _ _ q => q, fun _ ps q => ⟨#[], by rw [q]; simp⟩⟩
theorem Un.refl : Un fs ex H H h h := Un.kept fun _ _ q => q
theorem Un.laid (k : ∀ b u, h.get? b = some u → h'.get? b = some u) (hp : h.objs.size ≤ a) (hn : H a = none) : Un fs ex H (upd H a o) h h' where
  keep := fun b u q _ _ _ => k b u q
  slot := fun b u q _ _ _ => ⟨u.slots, k b u q⟩
  free := fun b u q n _ => by rw [upd_ne (Nat.ne_of_lt (Nat.lt_of_lt_of_le (Heap.lt_size q) hp))]; exact n
  there := fun b u q _ => ⟨u, k b u q⟩
  tups := fun b xs q => by rw [upd_ne (ne_of_none q hn)]; exact q
  frzs := fun b u xs q => by rw [upd_ne (ne_of_none q hn)]; exact q
  tbls := fun b ps q => ⟨#[], by rw [upd_ne (ne_of_none q hn), q]; simp⟩
theorem Un.write (mu : Mut (H x)) (he : e = x ∨ H e = some (.own x)) (k : ∀ b u, b ≠ e → h.get? b = some u → h'.get? b = some u) (heo : ∃ u, h'.get? e = some u) : Un fs ex H (upd H x o) h h' := by
  have hx : ∀ b, H b = none → b ≠ x := fun b n z => by subst z; rw [n] at mu; exact mu
  have hb : ∀ b, H b = none → b ≠ e := fun b n z => by
    subst z
    rcases he with r | r
    · exact hx b n r
    · rw [n] at r; cases r
  have hm : ∀ b u, H b = some u → ¬ Mut (some u) → b ≠ x := fun b u q nm z => by subst z; rw [q] at mu; exact nm mu
  refine ⟨fun b u q n _ _ => k b u (hb b n) q, fun b u q n _ _ => ⟨u.slots, k b u (hb b n) q⟩, fun b u q n _ => by rw [upd_ne (hx b n)]; exact n, fun b u q _ => ?_,
    fun b xs q => by rw [upd_ne (hm b _ q fun z => z)]; exact q, fun b u xs q => by rw [upd_ne (hm b _ q fun z => z)]; exact q, fun b ps q => ⟨#[], by rw [upd_ne (hm b _ q fun z => z), q]; simp⟩⟩
  by_cases hbe : b = e
  · subst hbe; exact heo
  · exact ⟨u, k b u hbe q⟩
theorem Un.mono (u : Un fs ex H H1 h h1) (hs : ∀ b ∈ fs, b ∈ fs') (hx : ∀ b ∈ ex, b ∈ ex') : Un fs' ex' H H1 h h1 :=
  ⟨fun b ob q n hb he => u.keep b ob q n (fun z => hb (hs b z)) fun z => he (hx b z), fun _ _ q n _ he => u.any q n fun z => he (hx _ z), fun b ob q n he => u.free b ob q n fun z => he (hx b z), fun b ob q he => u.there b ob q fun z => he (hx b z), u.tups, u.frzs, u.tbls⟩
end

def trk (h : Heap) (H : Hp) : List Addr := (List.range h.objs.size).filter fun a => (H a).isSome
def hidT (h : Heap) (H : Hp) : Heap := PySem.W.hideAll h (trk h H)
theorem hidT_size (h : Heap) (H : Hp) : (hidT h H).objs.size = h.objs.size := PySem.W.hideAll_size _ _
theorem hidT_get {h : Heap} {H : Hp} {b : Addr} {o : Obj} (e : h.get? b = some o) (n : H b = none) : (hidT h H).get? b = some o :=
  PySem.W.hideAll_get _ e fun hm => by
    have q : (H b).isSome = true := (List.mem_filter.mp hm).2
    rw [n] at q; simp at q
theorem of_hidT {h : Heap} {H : Hp} {b : Addr} {o : Obj} (e : (hidT h H).get? b = some o) : h.get? b = some o ∧ H b = none := by
  have e' : h.get? b = some o := PySem.W.of_hideAll (trk h H) e
  refine ⟨e', ?_⟩
  cases q : H b with
  | none => rfl
  | some x =>
    have hm : b ∈ trk h H := List.mem_filter.mpr ⟨List.mem_range.mpr (Heap.lt_size e'), by simp [q]⟩
    have z : (hidT h H).get? b = none := PySem.W.hideAll_none (trk h H) hm
    rw [z] at e; cases e

def allNews (g h : Heap) (L : Addr) : List (Addr × Obj) := (List.range h.objs.size).filterMap fun a => if a = L ∨ (g.get? a).isSome = true then none else (h.get? a).map fun o => (a, o)
def rest (g h : Heap) (L d : Addr) : List (Addr × Obj) := (allNews g h L).filter fun p => decide (p.1 ≠ d)
end L2

namespace L2
open PySem PySem.Spec PyProof.Rows

/-- the module's facts, over the base: the heap at the law's entry without what is tracked there -/
structure Mod (K : PySem.W.Frag) (mg : Str → Option Value) (base : Heap) : Prop where
  kin : K.In base
  glob : base.Ns mainGlobals mg
  blt : ∃ mb, base.Ns builtinsNs mb ∧ ∀ x : Str, x ≠ "__name__" → mb x = bootBuiltins x
  nolimit : base.NoLimit

/-- the context: a def's body (or a comprehension's block) running. base: fixed through the whole law; s₀, H₀: the entry; outer: the frames whose slots others may change (a def's callers); stack: all frames that run;
   ex: iterators that were made ahead of the entry and are walked here (a comprehension's); fn: the names whose cells were made at the entry (a def: all; a comprehension's block: its own); calm: not within an except suite; pn: pins that every state bears; xe: what is wanted of an exception that leaves the code -/
structure Cx where
  prog : Program
  w : World
  K : PySem.W.Frag
  mg : Str → Option Value
  base : Heap
  A : Around
  N : List Str
  s₀ : Shared
  H₀ : Hp
  env : Env
  outer : List Env
  stack : List Env
  ex : List Addr
  fn : Str → Bool
  calm : Bool
  pn : List (Addr × Obj)
  xe : Value → Shared → Prop
/-- the callers' frames -/
def frs (l : List Env) : List Addr := l.filterMap (·.frame)
abbrev Cx.fs (X : Cx) : List Addr := frs X.outer

def Vis (sc : Scope) (x : Str) : Prop := sc.names.lookup x = some .local ∨ sc.names.lookup x = some .cell ∨ sc.names.lookup x = some .free
def Loc (sc : Scope) (x : Str) : Prop := sc.names.lookup x = some .local ∨ sc.names.lookup x = some .cell
def Look (env : Env) (h : Heap) (m : Str → Option Value) (x : Str) (u : Value) : Prop :=
  (env.kindOf x = some .local ∧ m x = some u) ∨ ((env.kindOf x = some .cell ∨ env.kindOf x = some .free) ∧ ∃ c, env.cells.lookup x = some c ∧ h.IsCell c (some u))

structure Cx.Ok (X : Cx) : Prop where
  mod : Mod X.K X.mg X.base
  kind : X.env.scope.kind = .function
  glob : X.env.globals = mainGlobals
  blt : X.env.builtins = builtinsNs
  above : X.s₀.heap.objs.size ≤ X.env.locals
  inj : ∀ x y c, X.env.cells.lookup x = some c → X.env.cells.lookup y = some c → x = y
  has : ∀ x, (X.env.kindOf x = some .cell ∨ X.env.kindOf x = some .free) → ∃ c, X.env.cells.lookup x = some c
  cab : ∀ x c, X.fn x = true → X.env.cells.lookup x = some c → X.s₀.heap.objs.size ≤ c
  hd : X.calm = true → X.A.handled = none
  frames : X.A.frames = some X.stack
  stk : X.stack = X.outer ∨ (X.stack = X.env :: X.outer ∧ X.env.frame = some X.env.locals)
  exf : ∀ b ∈ X.ex, b ≠ X.env.locals ∧ ∀ x c, X.env.cells.lookup x = some c → c ≠ b
  bs : ∀ b o, X.base.get? b = some o → X.s₀.heap.get? b = some o ∧ X.H₀ b = none
  bsz : X.base.objs.size ≤ X.s₀.heap.objs.size
  noex : ∀ b o, X.base.get? b = some o → b ∉ X.ex
  exfs : ∀ b ∈ X.ex, b ∉ X.fs
  funs : X.s₀.heap.FunFrames X.base X.outer
  frf : ∀ b ∈ X.fs, X.H₀ b = none

structure Inv (X : Cx) (pins : List (Addr × Obj)) (σ : List (Option V)) (H : Hp) (s : Shared) : Prop where
  ok : X.Ok
  os : s.os = X.s₀.os
  bare : AllBare s.gens
  base : Un X.fs X.ex X.H₀ H X.s₀.heap s.heap
  loc : ∃ m, s.heap.Ns X.env.locals m ∧ ∀ (i : Nat) (x : Str) (v : V), X.N[i]? = some x → σ[i]? = some (some v) → Vis X.env.scope x → ∃ u, RelV v u ∧ Look X.env s.heap m x u
  cell : ∀ x c, X.env.cells.lookup x = some c → ∃ v, s.heap.IsCell c v
  free : H X.env.locals = none
  freeC : ∀ x c, X.env.cells.lookup x = some c → H c = none
  pin : ∀ p ∈ X.pn ++ pins, s.heap.get? p.1 = some p.2 ∧ H p.1 = none ∧ p.1 ≠ X.env.locals ∧ p.1 ∉ X.fs ∧ ∀ v, p.2.data ≠ .cell v
  hok : HOk X.prog X.w H s.heap
  len : σ.length = X.N.length

section
variable {X : Cx} {pins : List (Addr × Obj)} {σ : List (Option V)} {H H' : Hp} {s : Shared} {h' : Heap}

theorem Cx.Ok.nofr (ok : X.Ok) {b : Addr} {o : Obj} (e : X.base.get? b = some o) : b ∉ X.fs := fun hb => by
  have := (ok.funs.mem hb).1
  rw [e] at this; cases this
theorem Inv.bs (I : Inv X pins σ H s) : ∀ b o, X.base.get? b = some o → s.heap.get? b = some o ∧ H b = none := fun b o e =>
  ⟨I.base.keep b o (I.ok.bs b o e).1 (I.ok.bs b o e).2 (I.ok.nofr e) (I.ok.noex b o e), I.base.free b o (I.ok.bs b o e).1 (I.ok.bs b o e).2 (I.ok.noex b o e)⟩
theorem Inv.bk (I : Inv X pins σ H s) : ∀ b o, X.base.get? b = some o → s.heap.get? b = some o := fun b o e => (I.bs b o e).1
theorem Inv.mod (I : Inv X pins σ H s) : Mod X.K X.mg X.base := I.ok.mod
theorem Inv.kIn (I : Inv X pins σ H s) : X.K.In s.heap := I.ok.mod.kin.keeps I.bk
theorem Inv.nolimit (I : Inv X pins σ H s) : s.heap.NoLimit := I.ok.mod.nolimit.keeps I.bk
/-- the frame over the base: for OpenK's rules (K.In X.base is I.mod.kin) -/
theorem Inv.fr (I : Inv X pins σ H s) : ∃ m, Fr X.base X.env.locals s.heap m :=
  let ⟨m, hn, _⟩ := I.loc
  ⟨m, hn, I.bk, Nat.le_trans I.ok.bsz I.ok.above⟩
theorem Inv.lt (I : Inv X pins σ H s) : X.env.locals < s.heap.objs.size := let ⟨_, hn, _⟩ := I.loc; hn.lt
theorem Inv.sz (I : Inv X pins σ H s) : X.s₀.heap.objs.size ≤ s.heap.objs.size := Nat.le_trans I.ok.above (Nat.le_of_lt I.lt)
theorem Inv.nofs (I : Inv X pins σ H s) {a : Addr} (h : s.heap.objs.size ≤ a) : a ∉ X.fs := fun hb => by
  obtain ⟨_, o, ho, _⟩ := I.ok.funs.mem hb
  exact absurd (Nat.lt_of_lt_of_le (Heap.lt_size ho) (Nat.le_trans I.sz h)) (Nat.lt_irrefl _)
theorem Inv.cne (I : Inv X pins σ H s) : ∀ x c, X.env.cells.lookup x = some c → c ≠ X.env.locals := fun x c e z => by
  obtain ⟨v, o, ho, hd⟩ := I.cell x c e
  obtain ⟨m, ⟨o', es, ep, ho', hd', _⟩, _⟩ := I.loc
  rw [z, ho'] at ho; cases ho; rw [hd'] at hd; cases hd
theorem Inv.funs (I : Inv X pins σ H s) : s.heap.FunFrames X.base X.outer := by
  have all : ∀ (l : List Env), (∀ b ∈ frs l, b ∈ X.fs) → X.s₀.heap.FunFrames X.base l → s.heap.FunFrames X.base l := by
    intro l
    induction l with
    | nil => intro _ _; trivial
    | cons env r ih =>
      intro hs hl
      obtain ⟨hk, ⟨L, o, hf, hn, ho, hd⟩, hr⟩ := hl
      have hL : L ∈ X.fs := hs L (by unfold frs; rw [List.filterMap_cons, hf]; exact List.mem_cons_self)
      obtain ⟨sl, e⟩ := I.base.slot L o ho (I.ok.frf L hL) hL fun z => I.ok.exfs L z hL
      exact ⟨hk, ⟨L, _, hf, hn, e, hd⟩, ih (fun b hb => hs b (by unfold frs; rw [List.filterMap_cons, hf]; exact List.mem_cons_of_mem _ hb)) hr⟩
  exact all X.outer (fun _ hb => hb) I.ok.funs

/-- the frames that run, for a call -/
theorem Inv.stack (I : Inv X pins σ H s) : s.heap.FunFrames X.base X.stack := by
  rcases I.ok.stk with e | ⟨e, hf⟩
  · rw [e]; exact I.funs
  · rw [e]
    obtain ⟨m, hn, _⟩ := I.loc
    refine .cons (by rw [I.ok.kind]; decide) hf hn ?_ I.funs
    exact Heap.get?_none_of_le (Nat.le_trans I.ok.bsz I.ok.above)
theorem Inv.stkSub (I : Inv X pins σ H s) : ∀ b ∈ frs X.stack, b ∈ X.env.locals :: X.fs := fun b hb => by
  rcases I.ok.stk with e | ⟨e, hf⟩
  · rw [e] at hb; exact List.mem_cons_of_mem _ hb
  · rw [e] at hb
    unfold frs at hb
    rw [List.filterMap_cons, hf] at hb
    exact hb
theorem Inv.stkFree (I : Inv X pins σ H s) : ∀ b ∈ frs X.stack, H b = none := fun b hb => by
  rcases List.mem_cons.mp (I.stkSub b hb) with e | hb
  · rw [e]; exact I.free
  · obtain ⟨_, o, ho, _⟩ := I.ok.funs.mem hb
    exact I.base.free b o ho (I.ok.frf b hb) fun z => I.ok.exfs b z hb

/-- THE STEP: the untracked objects but the frame and the records at ch are kept (the callers' frames up to slots), the frame's map is kept, the new abstract heap is held -/
theorem Inv.step {g' : Array GenState} {t' : Nat} {d' : Drawn} {ch : List Addr} (I : Inv X pins σ H s)
    (hch : ∀ b ∈ ch, (b ∈ X.ex ∨ X.s₀.heap.objs.size ≤ b) ∧ b ≠ X.env.locals ∧ (∀ x c, X.env.cells.lookup x = some c → c ≠ b) ∧ ∀ p ∈ X.pn ++ pins, p.1 ≠ b)
    (keep : ∀ b o, b ≠ X.env.locals → b ∉ X.fs → b ∉ ch → s.heap.get? b = some o → H b = none → h'.get? b = some o)
    (slot : ∀ b o, b ≠ X.env.locals → b ∈ X.fs → b ∉ ch → s.heap.get? b = some o → H b = none → ∃ sl, h'.get? b = some { o with slots := sl }) (free : ∀ b o, b ∉ ch → s.heap.get? b = some o → H b = none → H' b = none)
    (there : ∀ b o, b ∉ ch → s.heap.get? b = some o → ∃ o', h'.get? b = some o')
    (tups : ∀ b xs, H b = some (.tup xs) → H' b = some (.tup xs)) (frzs : ∀ b o u, H b = some (.frz o u) → H' b = some (.frz o u)) (tbls : ∀ b ps, H b = some (.tbl ps) → ∃ more, H' b = some (.tbl (ps ++ more)))
    (ns : ∀ m, s.heap.Ns X.env.locals m → h'.Ns X.env.locals m) (hok : HOk X.prog X.w H' h') (hg : AllBare g') :
    Inv X pins σ H' { s with heap := h', gens := g', drawn := d', toks := t' } := by
  have neL : ∀ b o, X.s₀.heap.get? b = some o → b ≠ X.env.locals := fun b o e => Nat.ne_of_lt (Nat.lt_of_lt_of_le (Heap.lt_size e) I.ok.above)
  have neC : ∀ b o, X.s₀.heap.get? b = some o → b ∉ X.ex → b ∉ ch := fun b o e hx hb => by
    rcases (hch b hb).1 with z | z
    · exact hx z
    · exact absurd (Nat.lt_of_lt_of_le (Heap.lt_size e) z) (Nat.lt_irrefl _)
  have cellK : ∀ x c, X.env.cells.lookup x = some c → ∀ v, s.heap.IsCell c v → h'.IsCell c v := fun x c e v ⟨o, ho, hd⟩ => by
    have nch : c ∉ ch := fun z => (hch c z).2.2.1 x c e rfl
    by_cases hc : c ∈ X.fs
    · obtain ⟨sl, q⟩ := slot c o (I.cne x c e) hc nch ho (I.freeC x c e)
      exact ⟨_, q, hd⟩
    · exact ⟨o, keep c o (I.cne x c e) hc nch ho (I.freeC x c e), hd⟩
  refine ⟨I.ok, I.os, hg, ⟨fun b o e n hb hx => ?_, fun b o e n hb hx => ?_, fun b o e n hx => ?_, fun b o e hx => ?_, fun b xs e => tups b xs (I.base.tups b xs e), fun b o xs e => frzs b o xs (I.base.frzs b o xs e), fun b ps e => ?_⟩, ?_, fun x c e => ?_, ?_, fun x c e => ?_, fun p hp => ?_, hok, I.len⟩
  · exact keep b o (neL b o e) hb (neC b o e hx) (I.base.keep b o e n hb hx) (I.base.free b o e n hx)
  · obtain ⟨sl, e1⟩ := I.base.slot b o e n hb hx
    obtain ⟨sl', e2⟩ := slot b _ (neL b o e) hb (neC b o e hx) e1 (I.base.free b o e n hx)
    exact ⟨sl', e2⟩
  · obtain ⟨o', e1⟩ := I.base.there b o e hx
    exact free b o' (neC b o e hx) e1 (I.base.free b o e n hx)
  · obtain ⟨o', e1⟩ := I.base.there b o e hx
    exact there b o' (neC b o e hx) e1
  · obtain ⟨m1, e1⟩ := I.base.tbls b ps e
    obtain ⟨m2, e2⟩ := tbls b _ e1
    exact ⟨m1 ++ m2, by rw [e2, Array.append_assoc]⟩
  · obtain ⟨m, hn, hl⟩ := I.loc
    refine ⟨m, ns m hn, fun i x v e1 e2 e3 => ?_⟩
    obtain ⟨u, r, l⟩ := hl i x v e1 e2 e3
    refine ⟨u, r, ?_⟩
    rcases l with l | ⟨k, c, e, z⟩
    · exact .inl l
    · exact .inr ⟨k, c, e, cellK x c e _ z⟩
  · obtain ⟨v, z⟩ := I.cell x c e
    exact ⟨v, cellK x c e v z⟩
  · obtain ⟨m, ⟨o, _, _, ho, _⟩, _⟩ := I.loc
    exact free _ o (fun z => (hch _ z).2.1 rfl) ho I.free
  · obtain ⟨v, o, ho, hd⟩ := I.cell x c e
    exact free c o (fun z => (hch c z).2.2.1 x c e rfl) ho (I.freeC x c e)
  · obtain ⟨e, n, ne, nf, d⟩ := I.pin p hp
    have nch : p.1 ∉ ch := fun z => (hch p.1 z).2.2.2 p hp rfl
    exact ⟨keep p.1 p.2 ne nf nch e n, free p.1 p.2 nch e n, ne, nf, d⟩
/-- .. where the frame's own object is kept too -/
theorem Inv.un {t' : Nat} (I : Inv X pins σ H s) (u : Un X.fs [] H H' s.heap h') (hok : HOk X.prog X.w H' h') : Inv X pins σ H' { s with heap := h', toks := t' } := by
  obtain ⟨m, ⟨o, es, ep, ho, r⟩, _⟩ := id I.loc
  obtain ⟨sl, hL⟩ := u.any ho I.free (by simp)
  exact I.step (g' := s.gens) (d' := s.drawn) (ch := []) (fun _ z => nomatch z) (fun b o _ hb _ e n => u.keep b o e n hb (by simp)) (fun b o _ hb _ e n => u.slot b o e n hb (by simp)) (fun b o _ e n => u.free b o e n (by simp)) (fun b o _ e => u.there b o e (by simp)) u.tups u.frzs u.tbls (fun m' hm => by
    obtain ⟨o', es', ep', ho', r'⟩ := hm
    rw [ho] at ho'; cases ho'
    exact ⟨_, es', ep', hL, r'⟩) hok I.bare
/-- behind a call (or a comprehension's block): the slots of this frame may have changed too, the records at ch may have turned -/
theorem Inv.call {g' : Array GenState} {t' : Nat} {d' : Drawn} {ch : List Addr} (I : Inv X pins σ H s) (u : Un (frs X.stack) ch H H' s.heap h') (hok : HOk X.prog X.w H' h') (hg : AllBare g')
    (hch : ∀ b ∈ ch, (b ∈ X.ex ∨ X.s₀.heap.objs.size ≤ b) ∧ b ≠ X.env.locals ∧ (∀ x c, X.env.cells.lookup x = some c → c ≠ b) ∧ ∀ p ∈ X.pn ++ pins, p.1 ≠ b) :
    Inv X pins σ H' { s with heap := h', gens := g', drawn := d', toks := t' } := by
  obtain ⟨m, ⟨o, es, ep, ho, r⟩, _⟩ := id I.loc
  obtain ⟨sl, hL⟩ := u.any ho I.free fun z => (hch _ z).2.1 rfl
  exact I.step (ch := ch) hch (fun b o hL hb hc e n => u.keep b o e n (fun z => (List.mem_cons.mp (I.stkSub b z)).elim hL hb) hc) (fun b o _ _ hc e n => u.any e n hc) (fun b o hc e n => u.free b o e n hc) (fun b o hc e => u.there b o e hc) u.tups u.frzs u.tbls (fun m' hm => by
    obtain ⟨o', es', ep', ho', r'⟩ := hm
    rw [ho] at ho'; cases ho'
    exact ⟨_, es', ep', hL, r'⟩) hok hg
/-- an untracked record of ours (an iterator) has turned -/
theorem Inv.turned {t' : Nat} {it : Addr} (I : Inv X pins σ H s) (k : ∀ b o, b ≠ it → s.heap.get? b = some o → h'.get? b = some o) (hn : H it = none) (hL : it ≠ X.env.locals)
    (h1 : it ∈ X.ex ∨ X.s₀.heap.objs.size ≤ it) (h2 : ∀ x c, X.env.cells.lookup x = some c → c ≠ it) (h3 : ∀ p ∈ X.pn ++ pins, p.1 ≠ it) : Inv X pins σ H { s with heap := h', toks := t' } := by
  have nit : ∀ b u, H b = some u → b ≠ it := fun b u e z => by rw [z, hn] at e; cases e
  refine I.step (g' := s.gens) (d' := s.drawn) (ch := [it]) (fun b hb => ?_) (fun b o _ _ hc e _ => k b o (fun z => hc (by simp [z])) e) (fun b o _ _ hc e _ => ⟨o.slots, k b o (fun z => hc (by simp [z])) e⟩) (fun _ _ _ _ n => n)
    (fun b o hc e => ⟨o, k b o (fun z => hc (by simp [z])) e⟩) (fun _ _ e => e) (fun _ _ _ e => e) (fun b ps e => ⟨#[], by rw [e]; simp⟩) (fun m hm => ?_) (fun b u e => ?_) I.bare
  · have e : b = it := by simpa using hb
    subst e
    exact ⟨h1, hL, h2, h3⟩
  · obtain ⟨o, es, ep, ho, r⟩ := hm
    exact ⟨o, es, ep, k _ o (Ne.symm hL) ho, r⟩
  · refine (I.hok b u e).stay (fun c v hc q => k c v ?_ q) (fun _ q => q) fun _ _ q => q
    rcases hc with z | z
    · rw [z]; exact nit b u e
    · exact nit c _ z
theorem Inv.tok (I : Inv X pins σ H s) (t : Nat) : Inv X pins σ H { s with toks := t } := I.un (h' := s.heap) (t' := t) Un.refl I.hok
/-- all objects kept -/
theorem Inv.kept {t' : Nat} (I : Inv X pins σ H s) (k : ∀ b u, s.heap.get? b = some u → h'.get? b = some u) : Inv X pins σ H { s with heap := h', toks := t' } := I.un (Un.kept k) (I.hok.kept k)
/-- a new object laid and tracked -/
theorem Inv.laid {a : Addr} {o : HO} {t' : Nat} (I : Inv X pins σ H s) (k : ∀ b u, s.heap.get? b = some u → h'.get? b = some u) (hp : s.heap.objs.size ≤ a) (new : ObjOk X.prog X.w (upd H a o) h' a o) :
    Inv X pins σ (upd H a o) { s with heap := h', toks := t' } := I.un (Un.laid k hp (I.hok.fresh hp)) (I.hok.laid k hp new)
/-- an object written -/
theorem Inv.write {x e : Addr} {o : HO} {t' : Nat} (I : Inv X pins σ H s) (mu : Mut (H x)) (he : e = x ∨ H e = some (.own x)) (k : ∀ b u, b ≠ e → s.heap.get? b = some u → h'.get? b = some u) (heo : ∃ u, h'.get? e = some u)
    (new : ObjOk X.prog X.w (upd H x o) h' x o) : Inv X pins σ (upd H x o) { s with heap := h', toks := t' } := I.un (Un.write mu he k heo) (I.hok.write mu he k heo new)
theorem Inv.pins_of {pins' : List (Addr × Obj)} (I : Inv X pins σ H s) (h : ∀ p ∈ pins', s.heap.get? p.1 = some p.2 ∧ H p.1 = none ∧ p.1 ≠ X.env.locals ∧ p.1 ∉ X.fs ∧ ∀ v, p.2.data ≠ .cell v) : Inv X pins' σ H s :=
  ⟨I.ok, I.os, I.bare, I.base, I.loc, I.cell, I.free, I.freeC, fun p hp => (List.mem_append.mp hp).elim (fun z => I.pin p (List.mem_append_left _ z)) (h p), I.hok, I.len⟩

theorem nodup_ix {N : List Str} (hN : N.Nodup) {i j : Nat} {x : Str} (a : N[i]? = some x) (b : N[j]? = some x) : i = j := by
  obtain ⟨h1, e1⟩ := List.getElem?_eq_some_iff.mp a
  obtain ⟨h2, e2⟩ := List.getElem?_eq_some_iff.mp b
  exact (List.getElem_inj hN).mp (e1.trans e2.symm)

/-- a name is stored; what changed -/
theorem store_ok2 {M : Model} {A : Around} {E : Value → Shared → Prop} {i : Nat} {x : Str} {v : V} {u : Value} {Q : Unit → Shared → Prop} (I : Inv X pins σ H s) (hN : X.N.Nodup) (hi : X.N[i]? = some x) (hx : Loc X.env.scope x) (r : RelV v u)
    (h : ∀ s', Inv X pins (σ.set i (some v)) H s' → (∃ a, Heap.SameBut a s.heap s'.heap ∧ (a = X.env.locals ∨ X.env.cells.lookup x = some a)) → Q () s') (hf : X.fn x = true ∨ X.env.scope.names.lookup x = some .local := by first | exact .inl rfl | exact .inr rfl | assumption) : wpAny M A (storeName X.env x u) Q E s := by
  obtain ⟨m, hn, hl⟩ := id I.loc
  have hcls : (X.env.scope.kind == .class || (X.env.scope.kind == .module && X.env.locals != X.env.globals)) = false := by rw [I.ok.kind]; rfl
  have hiσ : i < σ.length := by rw [I.len]; exact (List.getElem?_eq_some_iff.mp hi).1
  have cne := I.cne
  have tracked : ∀ {a : Addr} {h' : Heap}, (∃ o, s.heap.get? a = some o ∧ H a = none) → Heap.SameBut a s.heap h' → HOk X.prog X.w H h' := fun {a h'} ha hs b ob e => by
    obtain ⟨_, _, hfree⟩ := ha
    refine (I.hok b ob e).stay (fun c w' hc q => (hs.2 c ?_).trans q) (fun _ q => q) fun _ _ q => q
    rintro rfl
    rcases hc with rfl | hc
    · rw [hfree] at e; cases e
    · rw [hfree] at hc; cases hc
  rcases hx with hk | hk
  · refine wpAny_storeName_local hk hn (fun h' hn' hs => ?_) hcls
    obtain ⟨oL, _, _, hoL, _⟩ := id hn
    refine h _ ⟨I.ok, I.os, I.bare, ⟨fun b o e n hb hx => ?_, fun b o e n hb hx => ?_, I.base.free, fun b o e hx => ?_, I.base.tups, I.base.frzs, I.base.tbls⟩, ⟨_, hn', fun j y v' e1 e2 e3 => ?_⟩, fun y c e => ?_, I.free, I.freeC, fun p hp => ?_, tracked ⟨oL, hoL, I.free⟩ hs, by simpa using I.len⟩ ⟨_, hs, .inl rfl⟩
    · exact (hs.2 b (Nat.ne_of_lt (Nat.lt_of_lt_of_le (Heap.lt_size e) I.ok.above))).trans (I.base.keep b o e n hb hx)
    · obtain ⟨sl, e1⟩ := I.base.slot b o e n hb hx
      exact ⟨sl, (hs.2 b (Nat.ne_of_lt (Nat.lt_of_lt_of_le (Heap.lt_size e) I.ok.above))).trans e1⟩
    · obtain ⟨o', e1⟩ := I.base.there b o e hx
      exact ⟨o', (hs.2 b (Nat.ne_of_lt (Nat.lt_of_lt_of_le (Heap.lt_size e) I.ok.above))).trans e1⟩
    · by_cases hj : j = i
      · subst hj
        rw [hi] at e1; cases e1
        rw [List.getElem?_set_self hiσ] at e2
        cases e2
        exact ⟨u, r, .inl ⟨hk, by simp⟩⟩
      · rw [List.getElem?_set_ne (Ne.symm hj)] at e2
        obtain ⟨u', r', q⟩ := hl j y v' e1 e2 e3
        refine ⟨u', r', ?_⟩
        rcases q with ⟨k, e⟩ | ⟨k, c, e, z⟩
        · refine .inl ⟨k, ?_⟩
          have : y ≠ x := fun e => hj (nodup_ix hN e1 (e ▸ hi))
          simp [this, e]
        · exact .inr ⟨k, c, e, z.sameBut hs (cne y c e)⟩
    · obtain ⟨w', z⟩ := I.cell y c e
      exact ⟨w', z.sameBut hs (cne y c e)⟩
    · obtain ⟨e, n, ne, nf, d⟩ := I.pin p hp
      exact ⟨(hs.2 p.1 ne).trans e, n, ne, nf, d⟩
  · have hfn : X.fn x = true := by
      rcases hf with z | z
      · exact z
      · rw [z] at hk; cases hk
    obtain ⟨c, hc⟩ := I.ok.has x (.inl hk)
    obtain ⟨w', z⟩ := I.cell x c hc
    refine wpAny_storeName_cell I.ok.kind hk hc z (fun h' hc' hs => ?_)
    obtain ⟨oc, hoc, hocd⟩ := id z
    refine h { s with heap := h' } ⟨I.ok, I.os, I.bare, ⟨fun b o e n hb hx => ?_, fun b o e n hb hx => ?_, I.base.free, fun b o e hx => ?_, I.base.tups, I.base.frzs, I.base.tbls⟩, ⟨m, hn.sameBut hs (Ne.symm (cne x c hc)), fun j y v' e1 e2 e3 => ?_⟩, fun y c' e => ?_, I.free, I.freeC, fun p hp => ?_, tracked ⟨oc, hoc, I.freeC x c hc⟩ hs, by simpa using I.len⟩ ⟨c, hs, .inr hc⟩
    · exact (hs.2 b (Nat.ne_of_lt (Nat.lt_of_lt_of_le (Heap.lt_size e) (I.ok.cab x c hfn hc)))).trans (I.base.keep b o e n hb hx)
    · obtain ⟨sl, e1⟩ := I.base.slot b o e n hb hx
      exact ⟨sl, (hs.2 b (Nat.ne_of_lt (Nat.lt_of_lt_of_le (Heap.lt_size e) (I.ok.cab x c hfn hc)))).trans e1⟩
    · obtain ⟨o', e1⟩ := I.base.there b o e hx
      exact ⟨o', (hs.2 b (Nat.ne_of_lt (Nat.lt_of_lt_of_le (Heap.lt_size e) (I.ok.cab x c hfn hc)))).trans e1⟩
    · by_cases hj : j = i
      · subst hj
        rw [hi] at e1; cases e1
        rw [List.getElem?_set_self hiσ] at e2
        cases e2
        exact ⟨u, r, .inr ⟨.inl hk, c, hc, hc'⟩⟩
      · rw [List.getElem?_set_ne (Ne.symm hj)] at e2
        obtain ⟨u', r', q⟩ := hl j y v' e1 e2 e3
        refine ⟨u', r', ?_⟩
        rcases q with q | ⟨k, c', e, z'⟩
        · exact .inl q
        · refine .inr ⟨k, c', e, z'.sameBut hs ?_⟩
          rintro rfl
          exact hj (nodup_ix hN e1 (I.ok.inj _ _ _ e hc ▸ hi))
    · by_cases hcc : c' = c
      · subst hcc; exact ⟨_, hc'⟩
      · obtain ⟨w2, z2⟩ := I.cell y c' e
        exact ⟨w2, z2.sameBut hs hcc⟩
    · obtain ⟨e, n, ne, nf, d⟩ := I.pin p hp
      refine ⟨(hs.2 p.1 ?_).trans e, n, ne, nf, d⟩
      intro q
      rw [q, hoc] at e
      have q' : oc = p.2 := Option.some.inj e
      exact d w' (by rw [← q']; exact hocd)
theorem store_ok {M : Model} {A : Around} {E : Value → Shared → Prop} {i : Nat} {x : Str} {v : V} {u : Value} {Q : Unit → Shared → Prop} (I : Inv X pins σ H s) (hN : X.N.Nodup) (hi : X.N[i]? = some x) (hx : Loc X.env.scope x) (r : RelV v u)
    (h : ∀ s', Inv X pins (σ.set i (some v)) H s' → Q () s') (hf : X.fn x = true ∨ X.env.scope.names.lookup x = some .local := by first | exact .inl rfl | exact .inr rfl | assumption) : wpAny M A (storeName X.env x u) Q E s :=
  store_ok2 I hN hi hx r (fun s' I' _ => h s' I') hf
/-- behind a call or a block, the state as it is -/
theorem Inv.call' {s' : Shared} {ch : List Addr} (I : Inv X pins σ H s) (ho : s'.os = s.os) (u : Un (frs X.stack) ch H H' s.heap s'.heap) (hok : HOk X.prog X.w H' s'.heap) (hg : AllBare s'.gens)
    (hch : ∀ b ∈ ch, (b ∈ X.ex ∨ X.s₀.heap.objs.size ≤ b) ∧ b ≠ X.env.locals ∧ (∀ x c, X.env.cells.lookup x = some c → c ≠ b) ∧ ∀ p ∈ X.pn ++ pins, p.1 ≠ b) : Inv X pins σ H' s' := by
  obtain ⟨h', g', d', t', o'⟩ := s'
  have e : o' = s.os := ho
  subst e
  exact I.call (g' := g') (t' := t') (d' := d') u hok hg hch
end

/-- an exception: its class, its own dict's address (where it has one), the abstract heap behind it -/
abbrev XK := Value → Option Addr → Hp → Prop
abbrev St := List (Option V)
abbrev VK := V → Hp → Prop
/-- an expression's reading; a test's; an argument list's -/
abbrev TE := St → Hp → VK → Prop
abbrev TT := St → Hp → (Bool → Hp → Prop) → Prop
abbrev TA := St → Hp → (List V → Hp → Prop) → Prop
/-- what is wanted behind a statement -/
structure Ends where
  nx : St → Hp → Prop
  rt : VK
  bk : St → Hp → Prop := fun _ _ => False
  ct : St → Hp → Prop := fun _ _ => False
abbrev TS := Ends → St → Hp → Prop

def EP (X : Cx) (pins : List (Addr × Obj)) (σ : St) (Q : VK) (u : Value) (s' : Shared) : Prop := ∃ v H', Inv X pins σ H' s' ∧ RelV v u ∧ Q v H'
def TP (X : Cx) (pins : List (Addr × Obj)) (σ : St) (Q : Bool → Hp → Prop) (b : Bool) (s' : Shared) : Prop := ∃ H', Inv X pins σ H' s' ∧ Q b H'
def AP (X : Cx) (pins : List (Addr × Obj)) (σ : St) (Q : List V → Hp → Prop) (us : List Value) (s' : Shared) : Prop := ∃ vs H', Inv X pins σ H' s' ∧ Vals vs us ∧ Q vs H'
def SP (X : Cx) (pins : List (Addr × Obj)) (D : Ends) (f : Flow) (s' : Shared) : Prop :=
  match f with
  | .next => ∃ σ' H', Inv X pins σ' H' s' ∧ D.nx σ' H'
  | .brk => ∃ σ' H', Inv X pins σ' H' s' ∧ D.bk σ' H'
  | .cont => ∃ σ' H', Inv X pins σ' H' s' ∧ D.ct σ' H'
  | .ret u => ∃ v σ' H', Inv X pins σ' H' s' ∧ RelV v u ∧ D.rt v H'

def PE (X : Cx) (e : Expr) (t : TE) : Prop :=
  ∀ (pins : List (Addr × Obj)) (s : Shared) (σ : St) (H : Hp) (Q : VK), Inv X pins σ H s → t σ H Q → wpAny (model X.prog X.w) X.A (eval e X.env) (EP X pins σ Q) X.xe s
def PT (X : Cx) (e : Expr) (t : TT) : Prop :=
  ∀ (pins : List (Addr × Obj)) (s : Shared) (σ : St) (H : Hp) (Q : Bool → Hp → Prop), Inv X pins σ H s → t σ H Q → wpAny (model X.prog X.w) X.A (isTrue e X.env (eval e X.env)) (TP X pins σ Q) X.xe s
/-- a test whatever its 'whole' is (and, or) -/
def PW (X : Cx) (e : Expr) (t : TT) : Prop :=
  ∀ (whole : Sem Value) (pins : List (Addr × Obj)) (s : Shared) (σ : St) (H : Hp) (Q : Bool → Hp → Prop), Inv X pins σ H s → t σ H Q → wpAny (model X.prog X.w) X.A (isTrue e X.env whole) (TP X pins σ Q) X.xe s
theorem PW.pt {X : Cx} {e : Expr} {t : TT} (h : PW X e t) : PT X e t := h _
/-- an argument list (no star), from the left -/
def PA (X : Cx) (es : List Expr) (t : TA) : Prop :=
  ∀ (pos : Pos) (pins : List (Addr × Obj)) (s : Shared) (σ : St) (H : Hp) (Q : List V → Hp → Prop), Inv X pins σ H s → t σ H Q → wpAny (model X.prog X.w) X.A (spliced (backTo pos (starEach es X.env))) (AP X pins σ Q) X.xe s
def PS (X : Cx) (st : Stmt) (t : TS) : Prop :=
  ∀ (pins : List (Addr × Obj)) (s : Shared) (σ : St) (H : Hp) (D : Ends), Inv X pins σ H s → t D σ H → wpAny (model X.prog X.w) X.A (exec st X.env) (SP X pins D) X.xe s
def PSs (X : Cx) (st : List Stmt) (t : TS) : Prop :=
  ∀ (pins : List (Addr × Obj)) (s : Shared) (σ : St) (H : Hp) (D : Ends), Inv X pins σ H s → t D σ H → wpAny (model X.prog X.w) X.A (execs st X.env) (SP X pins D) X.xe s
/-- weaken the end -/
theorem thn {α : Type} {t : Sem α} {Q Q' : α → Shared → Prop} {M : Model} {A : Around} {E : Value → Shared → Prop} {s : Shared} (h : wpAny M A t Q E s) (hQ : ∀ a s, Q a s → Q' a s) : wpAny M A t Q' E s := wpAny_mono h hQ fun _ _ x => x
end L2

namespace L2
open PySem PySem.Spec PyProof.Rows
section
variable {X : Cx}

def tVar (i : Nat) : TE := fun σ H Q => ∃ v, σ[i]? = some (some v) ∧ Q v H
def tC (v : V) : TE := fun _ H Q => Q v H
theorem pe_var {i : Nat} {x : Str} {pos : Pos} (hN : X.N[i]? = some x) (hv : Vis X.env.scope x) (hd : (x == ("__debug__" : Str)) = false := by decide) (hcd : (x == ("__classdict__" : Str)) = false := by decide) : PE X (.Name x pos) (tVar i) := by
  intro pins s σ H Q I h
  obtain ⟨v, e, h⟩ := h
  obtain ⟨m, hn, hl⟩ := I.loc
  obtain ⟨u, r, l⟩ := hl i x v hN e hv
  have fin : EP X pins σ Q u s := ⟨v, H, I, r, h⟩
  rcases l with ⟨hk, hm⟩ | ⟨hk, c, hc, hcell⟩
  · exact wpAny_Name (wpAny_loadName_local I.ok.kind hk hn hm fin) hd
  · rcases hk with hk | hk
    · exact wpAny_Name (wpAny_loadName_cell I.ok.kind hk hc hcell fin) hd
    · exact wpAny_Name (wpAny_loadName_free I.ok.kind hk hc hcell fin hcd) hd
theorem pe_int {i j pos} : PE X (.Constant (.int i) j pos) (tC (.int i)) := fun _ _ _ H _ I h => wpAny_Constant_int ⟨.int i, H, I.tok _, ⟨_, rfl⟩, h⟩
theorem pe_bl {b j pos} : PE X (.Constant (.bool b) j pos) (tC (.bl b)) := fun _ _ _ H _ I h => Constant_bool ⟨.bl b, H, I, rfl, h⟩
theorem pe_non {j pos} : PE X (.Constant .none j pos) (tC .non) := fun _ _ _ H _ I h => Constant_none ⟨.non, H, I, rfl, h⟩
theorem pe_str {x j pos} : PE X (.Constant (.str x) j pos) (tC (.str x)) := fun _ _ _ H _ I h => Calls.Constant_str ⟨.str x, H, I.tok _, ⟨_, rfl⟩, h⟩

/-- a global name of the def -/
def Gl (X : Cx) (x : Str) : Prop := X.env.kindOf x = some .globalImplicit
theorem ld_glob {E : Value → Shared → Prop} {pins : List (Addr × Obj)} {s : Shared} {σ : St} {H : Hp} {x : Str} {u : Value} {pos : Pos} {Q : Value → Shared → Prop} (I : Inv X pins σ H s) (hg : Gl X x) (hm : X.mg x = some u) (h : Q u s)
    (hd : (x == ("__debug__" : Str)) = false := by decide) : wpAny (model X.prog X.w) X.A (eval (.Name x pos) X.env) Q E s :=
  Calls.Name_function_global I.ok.kind hg (Calls.loadGlobal_global (by rw [I.ok.glob]; exact I.mod.glob.keeps I.bk) hm h) hd
theorem ld_blt {E : Value → Shared → Prop} {pins : List (Addr × Obj)} {s : Shared} {σ : St} {H : Hp} {x : Str} {u : Value} {pos : Pos} {Q : Value → Shared → Prop} (I : Inv X pins σ H s) (hg : Gl X x) (hm : X.mg x = none) (hv : bootBuiltins x = some u) (h : Q u s)
    (hn : x ≠ "__name__" := by decide) (hd : (x == ("__debug__" : Str)) = false := by decide) : wpAny (model X.prog X.w) X.A (eval (.Name x pos) X.env) Q E s := by
  obtain ⟨mb, h1, h2⟩ := I.mod.blt
  exact Calls.Name_function_global I.ok.kind hg (Calls.loadGlobal_builtin (by rw [I.ok.glob]; exact I.mod.glob.keeps I.bk) hm (by rw [I.ok.blt]; exact h1.keeps I.bk) ((h2 x hn).trans hv) h) hd
/-- a module's constant, a class, a function, as a value -/
theorem pe_glob {x : Str} {v : V} {u : Value} {pos : Pos} (hg : Gl X x) (hm : X.mg x = some u) (r : RelV v u) (hd : (x == ("__debug__" : Str)) = false := by decide) : PE X (.Name x pos) (tC v) :=
  fun _ _ _ H _ I h => ld_glob I hg hm ⟨v, H, I, r, h⟩ hd
theorem pe_bltn {x : Str} {v : V} {u : Value} {pos : Pos} (hg : Gl X x) (hm : X.mg x = none) (hv : bootBuiltins x = some u) (r : RelV v u) (hn : x ≠ "__name__" := by decide) (hd : (x == ("__debug__" : Str)) = false := by decide) : PE X (.Name x pos) (tC v) :=
  fun _ _ _ H _ I h => ld_blt I hg hm hv ⟨v, H, I, r, h⟩ hn hd

variable {a b : Expr} {ta tb : TE} {pos : Pos}
def PC (X : Cx) (op : CmpOp) (a b : Expr) (t : TE) : Prop :=
  ∀ (pins : List (Addr × Obj)) (s : Shared) (σ : St) (H : Hp) (Q : VK), Inv X pins σ H s → t σ H Q →
    wpAny (model X.prog X.w) X.A (eval a X.env) (fun v s₁ => wpAny (model X.prog X.w) X.A (eval b X.env) (fun u s₂ => wpAny (model X.prog X.w) X.A (compareOp op v u) (EP X pins σ Q) X.xe s₂) X.xe s₁) X.xe s
theorem nobehind (b : Expr) {op : CmpOp} (h : op ≠ .In) (h2 : op ≠ .NotIn) : behindInMarks op b = false := by
  have e1 : (op == CmpOp.In) = false := by cases op <;> first | rfl | exact absurd rfl h
  have e2 : (op == CmpOp.NotIn) = false := by cases op <;> first | rfl | exact absurd rfl h2
  cases b <;> simp [behindInMarks, e1, e2]
/-- is None -/
def tIsN (ta : TE) : TE := fun σ H Q => ta σ H fun x H1 => Q (.bl (decide (x = .non))) H1
def tNotN (ta : TE) : TE := fun σ H Q => ta σ H fun x H1 => Q (.bl (!decide (x = .non))) H1
theorem RelV.none_iff {x : V} {v : Value} (r : RelV x v) : (v == Value.none) = decide (x = .non) := by
  cases x with
  | non => cases r; rfl
  | bl _ => cases r; rfl
  | int _ => obtain ⟨t, rfl⟩ := r; rfl
  | str _ => obtain ⟨t, rfl⟩ := r; rfl
  | byt _ => obtain ⟨t, rfl⟩ := r; rfl
  | flt _ => obtain ⟨t, rfl⟩ := r; rfl
  | ref _ => cases r; rfl
  | ty _ => cases r; rfl
theorem pc_isN {j pos'} (ha : PE X a ta) : PC X .Is a (.Constant .none j pos') (tIsN ta) := by
  intro pins s σ H Q I h
  refine thn (ha pins s σ H _ I h) fun v s1 ⟨x, H1, I1, r1, q1⟩ => ?_
  exact Constant_none (is_none_gen ⟨.bl _, H1, I1, by rw [r1.none_iff]; rfl, q1⟩)
theorem pc_notN {j pos'} (ha : PE X a ta) : PC X .IsNot a (.Constant .none j pos') (tNotN ta) := by
  intro pins s σ H Q I h
  refine thn (ha pins s σ H _ I h) fun v s1 ⟨x, H1, I1, r1, q1⟩ => ?_
  exact Constant_none (isnot_none_gen ⟨.bl _, H1, I1, by rw [r1.none_iff]; rfl, q1⟩)
/-- a comparison as a value, as a test -/
def tB (t : TE) : TT := fun σ H Q => t σ H fun x H1 => ∃ c, x = .bl c ∧ Q c H1
theorem pe_cmp {op : CmpOp} {t : TE} (h : PC X op a b t) (h1 : behindInMarks op b = false := by first | exact nobehind _ (by decide) (by decide) | rfl) : PE X (.Compare a [op] [b] pos) t := fun pins s σ H Q I hw => wpAny_Compare1 (h pins s σ H Q I hw) h1
theorem pt_cmp {op : CmpOp} {t : TE} (h : PC X op a b t) (h1 : behindInMarks op b = false := by first | exact nobehind _ (by decide) (by decide) | rfl) : PT X (.Compare a [op] [b] pos) (tB t) := by
  intro pins s σ H Q I hw
  refine wpAny_isTrue_Compare1 (thn (h pins s σ H _ I hw) fun v s1 h1 => thn h1 fun u s2 h2 => thn h2 fun c s3 ⟨x, H1, I1, r1, q1⟩ => ?_) h1
  obtain ⟨d, rfl, q⟩ := q1
  cases r1
  exact wpAny_truthy_bool ⟨H1, I1, q⟩
/-- an expression whose value is a bool, as a test -/
theorem pt_val {e : Expr} {t : TE} (h : PE X e t) (he : ∀ whole, isTrue e X.env whole = (do let v ← whole; standAt e.pos; holding [v] (truthy v)) := by intro _; rfl) : PT X e (tB t) := by
  intro pins s σ H Q I hw
  refine isTrue_plain (thn (h pins s σ H _ I hw) fun v s1 ⟨x, H1, I1, r1, q1⟩ => ?_) (he _)
  obtain ⟨d, rfl, q⟩ := q1
  cases r1
  exact wpAny_truthy_bool ⟨H1, I1, q⟩

variable {tA tB' : TT} {rest : List Expr}
def tAnd (t u : TT) : TT := fun σ H Q => t σ H fun c H1 => if c = true then u σ H1 Q else Q false H1
def tOr (t u : TT) : TT := fun σ H Q => t σ H fun c H1 => if c = true then Q true H1 else u σ H1 Q
def tNot (t : TT) : TT := fun σ H Q => t σ H fun c H1 => Q (!c) H1
theorem pw_and1 (ha : PT X a tA) : PW X (.BoolOp .And [a] pos) tA := by
  intro wh pins s σ H Q I h
  refine isTrue_and (thn (ha pins s σ H Q I h) fun c s1 e => ?_)
  cases c with
  | true => exact isTrue_and_nil e
  | false => exact e
theorem pw_or1 (ha : PT X a tA) : PW X (.BoolOp .Or [a] pos) tA := by
  intro wh pins s σ H Q I h
  refine isTrue_or (thn (ha pins s σ H Q I h) fun c s1 e => ?_)
  cases c with
  | false => exact isTrue_or_nil e
  | true => exact e
theorem pw_and (ha : PT X a tA) (hb : PW X (.BoolOp .And (b :: rest) pos) tB') : PW X (.BoolOp .And (a :: b :: rest) pos) (tAnd tA tB') := by
  intro wh pins s σ H Q I h
  refine isTrue_and (thn (ha pins s σ H _ I h) fun c s1 ⟨H1, I1, q1⟩ => ?_)
  cases c with
  | true => exact hb wh pins s1 σ H1 Q I1 q1
  | false => exact ⟨H1, I1, q1⟩
theorem pw_or (ha : PT X a tA) (hb : PW X (.BoolOp .Or (b :: rest) pos) tB') : PW X (.BoolOp .Or (a :: b :: rest) pos) (tOr tA tB') := by
  intro wh pins s σ H Q I h
  refine isTrue_or (thn (ha pins s σ H _ I h) fun c s1 ⟨H1, I1, q1⟩ => ?_)
  cases c with
  | true => exact ⟨H1, I1, q1⟩
  | false => exact hb wh pins s1 σ H1 Q I1 q1
theorem pt_not (ha : PT X a tA) : PT X (.UnaryOp .Not a pos) (tNot tA) := by
  intro pins s σ H Q I h
  exact isTrue_not (ha pins s σ H (fun c H1 => Q (!c) H1) I h)
/-- .. as values (bools) -/
def tAndV (ta tb : TE) : TE := fun σ H Q => ta σ H fun x H1 => ∃ c, x = .bl c ∧ if c = true then tb σ H1 Q else Q (.bl false) H1
def tOrV (ta tb : TE) : TE := fun σ H Q => ta σ H fun x H1 => ∃ c, x = .bl c ∧ if c = true then Q (.bl true) H1 else tb σ H1 Q
def tNotV (ta : TE) : TE := fun σ H Q => ta σ H fun x H1 => ∃ c, x = .bl c ∧ Q (.bl (!c)) H1
theorem pe_one {op} {t : TE} (h : PE X a t) : PE X (.BoolOp op [a] pos) t := fun pins s σ H Q I hw => BoolOp_one (h pins s σ H Q I hw)
theorem pe_and (ha : PE X a ta) (hb : PE X (.BoolOp .And (b :: rest) pos) tb) : PE X (.BoolOp .And (a :: b :: rest) pos) (tAndV ta tb) := by
  intro pins s σ H Q I h
  refine BoolOp_and (thn (ha pins s σ H _ I h) fun v s1 ⟨x, H1, I1, r1, q1⟩ => ?_)
  obtain ⟨c, rfl, q1⟩ := q1
  cases r1
  refine wpAny_truthy_bool ?_
  cases c with
  | true => exact hb pins s1 σ H1 Q I1 q1
  | false => exact ⟨.bl false, H1, I1, rfl, q1⟩
theorem pe_or (ha : PE X a ta) (hb : PE X (.BoolOp .Or (b :: rest) pos) tb) : PE X (.BoolOp .Or (a :: b :: rest) pos) (tOrV ta tb) := by
  intro pins s σ H Q I h
  refine BoolOp_or (thn (ha pins s σ H _ I h) fun v s1 ⟨x, H1, I1, r1, q1⟩ => ?_)
  obtain ⟨c, rfl, q1⟩ := q1
  cases r1
  refine wpAny_truthy_bool ?_
  cases c with
  | false => exact hb pins s1 σ H1 Q I1 q1
  | true => exact ⟨.bl true, H1, I1, rfl, q1⟩
theorem pe_not (ha : PE X a ta) : PE X (.UnaryOp .Not a pos) (tNotV ta) := by
  intro pins s σ H Q I h
  refine UnaryOp_ (thn (ha pins s σ H _ I h) fun v s1 ⟨x, H1, I1, r1, q1⟩ => ?_)
  obtain ⟨c, rfl, q1⟩ := q1
  cases r1
  exact not_of (wpAny_truthy_bool ⟨.bl (!c), H1, I1, rfl, q1⟩)
/-- a if t else b -/
def tIf (t : TT) (ta tb : TE) : TE := fun σ H Q => t σ H fun c H1 => if c = true then ta σ H1 Q else tb σ H1 Q
theorem pe_ifExp {c : Expr} (hc : PT X c tA) (ha : PE X a ta) (hb : PE X b tb) : PE X (.IfExp c a b pos) (tIf tA ta tb) := by
  intro pins s σ H Q I h
  refine wpAny_IfExp (thn (hc pins s σ H _ I h) fun d s1 ⟨H1, I1, q1⟩ => ?_)
  cases d with
  | true => exact ha pins s1 σ H1 Q I1 q1
  | false => exact hb pins s1 σ H1 Q I1 q1
end
end L2

namespace L2
open PySem PySem.Spec PyProof.Rows

def SqL (K : PySem.W.Frag) (H : Hp) (a : Addr) (xs : List V) : Prop :=
  Rd H a (.lst xs) ∨
    ∃ (o : Obj) (its : Array Value) (n : Nat), K.lookup a = some o ∧ o.cls = .type "list" ∧ o.dict = none ∧ o.data = .seq its n ∧ its.size ≤ sizeLine ∧ Vals xs its.toList
def SqT (K : PySem.W.Frag) (H : Hp) (a : Addr) (xs : List V) : Prop :=
  Rd H a (.tup xs) ∨
    ∃ (o : Obj) (its : Array Value) (n : Nat), K.lookup a = some o ∧ o.cls = .type "tuple" ∧ o.data = .seq its n ∧ its.size ≤ sizeLine ∧ Vals xs its.toList
def absV : Value → Option V
  | .none => some .non
  | .bool b => some (.bl b)
  | .int i _ => some (.int i)
  | .str x _ => some (.str x)
  | .bytes b _ => some (.byt b)
  | .float b _ => some (.flt b)
  | .ref a => some (.ref a)
  | .type n => some (.ty n)
  | _ => none
theorem RelV.abs {x : V} {u : Value} (r : RelV x u) : absV u = some x := by
  cases x with
  | non => cases r; rfl
  | bl _ => cases r; rfl
  | int _ => obtain ⟨t, rfl⟩ := r; rfl
  | str _ => obtain ⟨t, rfl⟩ := r; rfl
  | byt _ => obtain ⟨t, rfl⟩ := r; rfl
  | flt _ => obtain ⟨t, rfl⟩ := r; rfl
  | ref _ => cases r; rfl
  | ty _ => cases r; rfl
theorem RelV.inj {x y : V} {u : Value} (r : RelV x u) (q : RelV y u) : x = y := Option.some.inj (r.abs.symm.trans q.abs)
theorem Vals.inj : ∀ {xs ys : List V} {us : List Value}, Vals xs us → Vals ys us → xs = ys
  | _, _, _, .nil, .nil => rfl
  | _, _, _, .cons r t, .cons r' t' => by rw [r.inj r', Vals.inj t t']
section
variable {X : Cx} {pins : List (Addr × Obj)} {σ : St} {H : Hp} {s : Shared} {a : Addr} {xs ys : List V}
theorem SqL.of {K : PySem.W.Frag} (h : H a = some (.lst xs)) : SqL K H a xs := .inl (.inl h)
theorem SqT.of {K : PySem.W.Frag} (h : H a = some (.tup xs)) : SqT K H a xs := .inl (.inl h)
theorem Inv.list (I : Inv X pins σ H s) (h : SqL X.K H a xs) : ∃ its : List Value, Vals xs its ∧ PlainL s.heap a its.toArray ∧ xs.length ≤ sizeLine := by
  rcases h with h | ⟨o, its, n, hk, hc, hd, hs, hz, r⟩
  · obtain ⟨z, its, n, r, e⟩ := h.ok I.hok
    exact ⟨its, r, ⟨_, n, e, rfl, rfl, rfl⟩, z⟩
  · refine ⟨its.toList, r, ⟨o, n, I.kIn a o hk, hc, hd, by simpa using hs⟩, ?_⟩
    have e := r.length
    simp only [Array.length_toList] at e
    omega
theorem Inv.tuple (I : Inv X pins σ H s) (h : SqT X.K H a xs) : ∃ its : List Value, Vals xs its ∧ IsTup s.heap a its.toArray ∧ xs.length ≤ sizeLine := by
  rcases h with h | ⟨o, its, n, hk, hc, hs, hz, r⟩
  · obtain ⟨z, its, r, p⟩ := h.ok I.hok
    exact ⟨its, r, p, z⟩
  · refine ⟨its.toList, r, ⟨o, I.kIn a o hk, hc, n, by simpa using hs⟩, ?_⟩
    have e := r.length
    simp only [Array.length_toList] at e
    omega
theorem Inv.list_inj (I : Inv X pins σ H s) (h : SqL X.K H a xs) (h' : SqL X.K H a ys) : xs = ys := by
  obtain ⟨its, r, ⟨o, n, e, _, _, d⟩, _⟩ := I.list h
  obtain ⟨its', r', ⟨o', n', e', _, _, d'⟩, _⟩ := I.list h'
  rw [e] at e'; cases e'
  rw [d] at d'
  injection d' with d1 _
  have : its = its' := by simpa using congrArg Array.toList d1
  subst this
  exact r.inj r'
theorem Inv.tuple_inj (I : Inv X pins σ H s) (h : SqT X.K H a xs) (h' : SqT X.K H a ys) : xs = ys := by
  obtain ⟨its, r, ⟨o, e, _, n, d⟩, _⟩ := I.tuple h
  obtain ⟨its', r', ⟨o', e', _, n', d'⟩, _⟩ := I.tuple h'
  rw [e] at e'; cases e'
  rw [d] at d'
  injection d' with d1 _
  have : its = its' := by simpa using congrArg Array.toList d1
  subst this
  exact r.inj r'
end

abbrev Cx.wish (X : Cx) (E : Value → Shared → Prop) : Cx := { X with xe := E }
/-- no exception leaves -/
abbrev Cx.nox (X : Cx) : Cx := X.wish fun _ _ => False
theorem Cx.Ok.wish {X : Cx} (ok : X.Ok) (E : Value → Shared → Prop) : (X.wish E).Ok :=
  ⟨ok.mod, ok.kind, ok.glob, ok.blt, ok.above, ok.inj, ok.has, ok.cab, ok.hd, ok.frames, ok.stk, ok.exf, ok.bs, ok.bsz, ok.noex, ok.exfs, ok.funs, ok.frf⟩
theorem Cx.Ok.unwish {X : Cx} {E : Value → Shared → Prop} (ok : (X.wish E).Ok) : X.Ok :=
  ⟨ok.mod, ok.kind, ok.glob, ok.blt, ok.above, ok.inj, ok.has, ok.cab, ok.hd, ok.frames, ok.stk, ok.exf, ok.bs, ok.bsz, ok.noex, ok.exfs, ok.funs, ok.frf⟩
section
variable {X : Cx} {pins : List (Addr × Obj)} {σ : St} {H : Hp} {s : Shared} {E : Value → Shared → Prop}
theorem Inv.wish (I : Inv X pins σ H s) (E : Value → Shared → Prop) : Inv (X.wish E) pins σ H s := ⟨I.ok.wish E, I.os, I.bare, I.base, I.loc, I.cell, I.free, I.freeC, I.pin, I.hok, I.len⟩
theorem Inv.unwish (I : Inv (X.wish E) pins σ H s) : Inv X pins σ H s := ⟨I.ok.unwish, I.os, I.bare, I.base, I.loc, I.cell, I.free, I.freeC, I.pin, I.hok, I.len⟩
theorem SP.unwish {D : Ends} {f : Flow} {s' : Shared} (h : SP (X.wish E) pins D f s') : SP X pins D f s' := by
  cases f with
  | next => obtain ⟨σ', H', I, q⟩ := h; exact ⟨σ', H', I.unwish, q⟩
  | brk => obtain ⟨σ', H', I, q⟩ := h; exact ⟨σ', H', I.unwish, q⟩
  | cont => obtain ⟨σ', H', I, q⟩ := h; exact ⟨σ', H', I.unwish, q⟩
  | ret u => obtain ⟨v, σ', H', I, r, q⟩ := h; exact ⟨v, σ', H', I.unwish, r, q⟩
theorem PE.nox {e : Expr} {t : TE} (h : PE X.nox e t) : PE X e t := fun pins s σ H Q I hw =>
  wpAny_mono (h pins s σ H Q (I.wish _) hw) (fun _ _ ⟨v, H', I', r, q⟩ => ⟨v, H', I'.unwish, r, q⟩) fun _ _ z => False.elim z
theorem PT.nox {e : Expr} {t : TT} (h : PT X.nox e t) : PT X e t := fun pins s σ H Q I hw =>
  wpAny_mono (h pins s σ H Q (I.wish _) hw) (fun _ _ ⟨H', I', q⟩ => ⟨H', I'.unwish, q⟩) fun _ _ z => False.elim z
theorem PSs.nox {st : List Stmt} {t : TS} (h : PSs X.nox st t) : PSs X st t := fun pins s σ H D I hw =>
  wpAny_mono (h pins s σ H D (I.wish _) hw) (fun _ _ q => q.unwish) fun _ _ z => False.elim z
end

section
variable {X : Cx} {st : Stmt} {rest : List Stmt} {t u : TS} {e : Expr} {te : TE} {pos : Pos}
def tNext : TS := fun D σ H => D.nx σ H
def tSeq (t u : TS) : TS := fun D σ H => t { D with nx := u D } σ H
theorem pss_nil : PSs X [] tNext := fun _ _ σ H _ I h => wpAny_execs_nil ⟨σ, H, I, h⟩
theorem pss_cons (h1 : PS X st t) (h2 : PSs X rest u) : PSs X (st :: rest) (tSeq t u) := by
  intro pins s σ H D I h
  refine wpAny_execs_cons (thn (h1 pins s σ H { D with nx := u D } I h) fun f s1 q => ?_)
  cases f with
  | next =>
    obtain ⟨σ', H', I', q⟩ := q
    exact h2 pins s1 σ' H' D I' q
  | ret v => exact q
  | brk => exact q
  | cont => exact q
theorem pss_one (h1 : PS X st t) : PSs X [st] t := by
  intro pins s σ H D I h
  refine wpAny_execs_cons (thn (h1 pins s σ H D I h) fun f s1 q => ?_)
  cases f with
  | next => exact wpAny_execs_nil q
  | ret v => exact q
  | brk => exact q
  | cont => exact q
/-- in a def's body nothing is shown -/
theorem Inv.quiet {pins : List (Addr × Obj)} {σ : St} {H : Hp} {s : Shared} (I : Inv X pins σ H s) : interactive X.env = false := by simp [interactive, I.ok.kind]
/-- an expression whose value is dropped -/
def tDrop (te : TE) : TS := fun D σ H => te σ H fun _ H1 => D.nx σ H1
theorem ps_expr (he : PE X e te) (hs : swapsWith e none pos.line X.env = pure false := by rfl) : PS X (.Expr e pos) (tDrop te) := by
  intro pins s σ H D I h
  exact wpAny_Expr_any (thn (he pins s σ H _ I h) fun v s1 ⟨x, H1, I1, r1, q1⟩ => ⟨σ, H1, I1, q1⟩) I.quiet hs
def tRet (te : TE) : TS := fun D σ H => te σ H D.rt
theorem ps_ret (he : PE X e te) : PS X (.Return (some e) pos) (tRet te) := by
  intro pins s σ H D I h
  exact wpAny_Return_some (thn (he pins s σ H _ I h) fun v s1 ⟨x, H1, I1, r1, q1⟩ => ⟨x, σ, H1, I1, r1, q1⟩)
def tIfS (c : TT) (t u : TS) : TS := fun D σ H => c σ H fun b H1 => if b = true then t D σ H1 else u D σ H1
theorem ps_if {c : Expr} {a b : List Stmt} {tc : TT} (hc : PT X c tc) (ha : PSs X a t) (hb : PSs X b u) : PS X (.If c a b pos) (tIfS tc t u) := by
  intro pins s σ H D I h
  refine wpAny_If (thn (hc pins s σ H _ I h) fun d s1 ⟨H1, I1, q1⟩ => ?_)
  cases d with
  | true => exact ha pins s1 σ H1 D I1 q1
  | false => exact hb pins s1 σ H1 D I1 q1
end

abbrev TG := V → St → Hp → (St → Hp → Prop) → Prop
abbrev TGs := List V → St → Hp → (St → Hp → Prop) → Prop
def PG (X : Cx) (target : Expr) (t : TG) : Prop :=
  ∀ (pins : List (Addr × Obj)) (s : Shared) (σ : St) (H : Hp) (v : V) (u : Value) (Q : St → Hp → Prop), Inv X pins σ H s → RelV v u → t v σ H Q →
    wpAny (model X.prog X.w) X.A (assign target X.env u) (fun _ s' => ∃ σ' H', Inv X pins σ' H' s' ∧ Q σ' H') X.xe s
/-- several targets, one after another -/
def PGs (X : Cx) (ts : List Expr) (t : TGs) : Prop :=
  ∀ (pins : List (Addr × Obj)) (s : Shared) (σ : St) (H : Hp) (vs : List V) (us : List Value) (Q : St → Hp → Prop), Inv X pins σ H s → Vals vs us → t vs σ H Q →
    wpAny (model X.prog X.w) X.A (assignInOrder ((assignEach ts X.env).map (·.2)) us) (fun _ s' => ∃ σ' H', Inv X pins σ' H' s' ∧ Q σ' H') X.xe s
/-- o[i] = v, by values -/
abbrev TSet := V → V → V → Hp → (Hp → Prop) → Prop
def PSet (X : Cx) (t : TSet) : Prop :=
  ∀ (pins : List (Addr × Obj)) (s : Shared) (σ : St) (H : Hp) (o i v : V) (ov iv u : Value) (Q : Hp → Prop), Inv X pins σ H s → RelV o ov → RelV i iv → RelV v u → t o i v H Q →
    wpAny (model X.prog X.w) X.A (setItem ov iv u) (fun _ s' => ∃ H', Inv X pins σ H' s' ∧ Q H') X.xe s
section
variable {X : Cx} {pos : Pos}
def gName (i : Nat) : TG := fun v σ H Q => Q (σ.set i (some v)) H
theorem pg_name {i : Nat} {x : Str} (hN : X.N.Nodup) (hi : X.N[i]? = some x) (hx : Loc X.env.scope x) (hf : X.fn x = true ∨ X.env.scope.names.lookup x = some .local := by first | exact .inl rfl | exact .inr rfl | assumption) : PG X (.Name x pos) (gName i) := by
  intro pins s σ H v u Q I r h
  exact wpAny_assign_Name (store_ok I hN hi hx r (fun s' I' => ⟨_, H, I', h⟩) hf)
/-- o[i] = .. -/
def gSub (to ti : TE) (t : TSet) : TG := fun v σ H Q => to σ H fun o H1 => ti σ H1 fun i H2 => t o i v H2 fun H3 => Q σ H3
theorem pg_sub {o i : Expr} {to ti : TE} {t : TSet} (ho : PE X o to) (hi : PE X i ti) (hs : PSet X t)
    (ha : ∀ v, assign (.Subscript o i pos) X.env v = (do
      let ov ← holding [v] (eval o X.env)
      let iv ← holding [v, ov] (eval i X.env)
      standAt pos
      holding [v, ov, iv] (setItem ov iv v)
      release [v, ov, iv] []) := by intro _; rfl) : PG X (.Subscript o i pos) (gSub to ti t) := by
  intro pins s σ H v u Q I r h
  rw [ha]
  refine wpAny_bind (wpAny_holding (thn (ho pins s σ H _ I h) fun ov s1 ⟨x, H1, I1, r1, q1⟩ => ?_))
  refine wpAny_bind (wpAny_holding (thn (hi pins s1 σ H1 _ I1 q1) fun iv s2 ⟨y, H2, I2, r2, q2⟩ => ?_))
  refine wpAny_bind (wpAny_standAt (wpAny_bind (wpAny_holding (thn (hs pins s2 σ H2 x y v ov iv u _ I2 r1 r2 r q2) fun _ s3 ⟨H3, I3, q3⟩ => ?_))))
  exact wpAny_release ⟨σ, H3, I3, q3⟩
/-- target = value -/
def tAsg (te : TE) (g : TG) : TS := fun D σ H => te σ H fun x H1 => g x σ H1 D.nx
theorem ps_asg {tg e : Expr} {te : TE} {g : TG} (he : PE X e te) (hg : PG X tg g) (hs : swapsWithSole [tg] e pos.line X.env = pure false := by rfl) (hw : swappedStores [tg] e X.env = pure none := by rfl)
    (h1 : (assignEach [tg] X.env).map (·.2) = [assign tg X.env] := by rfl) : PS X (.Assign [tg] e pos) (tAsg te g) := by
  intro pins s σ H D I h
  refine wpAny_Assign_stores (thn (he pins s σ H _ I h) fun v s1 ⟨x, H1, I1, r1, q1⟩ => ?_) hs hw
  rw [h1]
  exact thn (hg pins s1 σ H1 x v _ I1 r1 q1) fun _ s2 q => q
/-- name = value -/
theorem ps_set {i : Nat} {x : Str} {e : Expr} {te : TE} {pos' : Pos} (hN : X.N.Nodup) (hi : X.N[i]? = some x) (hx : Loc X.env.scope x) (he : PE X e te) (hs : swapsWith e (some (.Name x pos')) pos.line X.env = pure false := by rfl) (hf : X.fn x = true ∨ X.env.scope.names.lookup x = some .local := by first | exact .inl rfl | exact .inr rfl | assumption) :
    PS X (.Assign [.Name x pos'] e pos) (tAsg te (gName i)) := by
  intro pins s σ H D I h
  refine wpAny_Assign_Name (thn (he pins s σ H _ I h) fun v s1 ⟨y, H1, I1, r1, q1⟩ => ?_) hs
  exact store_ok I1 hN hi hx r1 (fun s2 I2 => ⟨_, H1, I2, q1⟩) hf
end

section
variable {X : Cx} {pos : Pos}
/-- the invariant W with its measure -/
def tWhile (c : TT) (tb : TS) : TS := fun D σ H => ∃ W : Nat → St → Hp → Prop, (∃ m, W m σ H) ∧ ∀ m σ H, W m σ H →
  c σ H fun b H1 => if b = true then ∃ N : St → Hp → Prop, (∀ σ' H', N σ' H' → ∃ m', m' < m ∧ W m' σ' H') ∧ tb { D with nx := N, ct := N, bk := D.nx } σ H1 else D.nx σ H1
theorem ps_while {c : Expr} {body : List Stmt} {tc : TT} {tb : TS} (hp : PassesOwn (model X.prog X.w) X.A X.env X.xe) (hc : PT X c tc) (hb : PSs X body tb) : PS X (.While c body [] pos) (tWhile tc tb) := by
  intro pins s σ H D I h
  obtain ⟨W, ⟨m0, w0⟩, turn⟩ := h
  refine wpAny_While (codeAny_whileLoop (fun n s' => ∃ σ' H', Inv X pins σ' H' s' ∧ W n σ' H') ?_ m0 ⟨σ, H, I, w0⟩)
  rintro n s1 ⟨σ1, H1, I1, w1⟩
  refine wpAny_passesOwn hp (thn (hc pins s1 σ1 H1 _ I1 (turn n σ1 H1 w1)) fun b s2 ⟨H2, I2, q2⟩ => ?_)
  cases b with
  | true =>
    obtain ⟨N, hN, q2⟩ := q2
    rw [if_pos rfl]
    refine wpAny_passesOwn hp (thn (hb pins s2 σ1 H2 _ I2 q2) fun f s3 q3 => ?_)
    cases f with
    | next =>
      obtain ⟨σ3, H3, I3, n3⟩ := q3
      obtain ⟨m', hm, w3⟩ := hN σ3 H3 n3
      exact ⟨m', hm, σ3, H3, I3, w3⟩
    | cont =>
      obtain ⟨σ3, H3, I3, n3⟩ := q3
      obtain ⟨m', hm, w3⟩ := hN σ3 H3 n3
      exact ⟨m', hm, σ3, H3, I3, w3⟩
    | brk => exact q3
    | ret v => exact q3
  | false =>
    rw [if_neg Bool.false_ne_true]
    exact wpAny_execs_nil ⟨σ1, H2, I2, q2⟩
end

/-- at turn i: it yields x (the heap may grow), or it stops -/
structure It where
  go : Nat → Hp → Prop
  yld : Nat → Hp → V → Hp → Prop
  stop : Nat → Hp → Prop
/-- the iterator's own objects may turn: they are not the frame's, not pinned, younger than the entry (or a comprehension's own) -/
def FpOk (X : Cx) (pins : List (Addr × Obj)) (H : Hp) (b : Addr) : Prop :=
  H b = none ∧ b ≠ X.env.locals ∧ b ∉ X.fs ∧ (b ∈ X.ex ∨ X.s₀.heap.objs.size ≤ b) ∧ (∀ x c, X.env.cells.lookup x = some c → c ≠ b) ∧ ∀ p ∈ X.pn ++ pins, p.1 ≠ b
theorem Inv.fpOk {X : Cx} {pins : List (Addr × Obj)} {σ : St} {H H' : Hp} {s : Shared} {b : Addr} (I : Inv X pins σ H s) (hb : s.heap.objs.size ≤ b) (hn : H' b = none) : FpOk X pins H' b := by
  refine ⟨hn, Nat.ne_of_gt (Nat.lt_of_lt_of_le I.lt hb), I.nofs hb, .inr (Nat.le_trans I.sz hb), fun x c e z => ?_, fun p hp z => ?_⟩
  · obtain ⟨v, q⟩ := I.cell x c e
    exact absurd (Nat.lt_of_lt_of_le q.lt (by rw [z]; exact hb)) (Nat.lt_irrefl _)
  · exact absurd (Nat.lt_of_lt_of_le (Heap.lt_size (I.pin p hp).1) (by rw [z]; exact hb)) (Nat.lt_irrefl _)
structure Turn (P : Program) (w : World) (K : PySem.W.Frag) (tg : Expr) (J : It) (fp : List Addr) (it : Addr) (tn : Nat → Heap → Prop) : Prop where
  mem : it ∈ fp
  obj : ∀ i h, tn i h → ∀ b ∈ fp, ∃ o, h.get? b = some o ∧ ∀ v, o.data ≠ .cell v
  keep : ∀ i h h', tn i h → (∀ b ∈ fp, ∀ o, h.get? b = some o → h'.get? b = some o) → tn i h'
  item : ∀ (X : Cx), X.prog = P → X.w = w → X.K = K → X.calm = true → ∀ (i : Nat) (pins : List (Addr × Obj)) (s : Shared) (σ : St) (H : Hp) (E : Value → Shared → Prop), Inv X pins σ H s → (∀ b ∈ fp, FpOk X pins H b) → tn i s.heap → J.go i H →
    wpAny (model P w) X.A (pyNext (.ref it)) (fun r s1 => ∃ u, r = some u ∧
      wpAny (model P w) X.A (letOwnedTupleGo tg (.ref it) u) (fun _ s2 => ∃ x H', Inv X pins σ H' s2 ∧ RelV x u ∧ J.yld i H x H' ∧ tn (i + 1) s2.heap ∧ ∀ b ∈ fp, H' b = none) E s1) E s
  done : ∀ (X : Cx), X.prog = P → X.w = w → X.K = K → X.calm = true → ∀ (i : Nat) (pins : List (Addr × Obj)) (s : Shared) (σ : St) (H : Hp) (E : Value → Shared → Prop), Inv X pins σ H s → (∀ b ∈ fp, FpOk X pins H b) → tn i s.heap → J.stop i H →
    wpAny (model P w) X.A (pyNext (.ref it)) (fun r s1 => r = none ∧ Inv X pins σ H s1) E s
  self : ∀ (A : Around) (i : Nat) (s : Shared) (Q : Value → Shared → Prop) (E : Value → Shared → Prop), tn i s.heap → Q (.ref it) s → wpAny (model P w) A (pyIter (.ref it)) Q E s
abbrev TI := St → Hp → (It → Hp → Prop) → Prop
/-- an iterator has come -/
def PIE (X : Cx) (pins : List (Addr × Obj)) (σ : St) (tg : Expr) (R : It → Hp → Prop) (itv : Value) (s2 : Shared) : Prop :=
  ∃ (it : Addr) (fp : List Addr) (tn : Nat → Heap → Prop) (J : It) (H' : Hp), itv = .ref it ∧ Inv X pins σ H' s2 ∧ Turn X.prog X.w X.K tg J fp it tn ∧ tn 0 s2.heap ∧ (∀ b ∈ fp, FpOk X pins H' b) ∧ R J H'
def PI (X : Cx) (tg iter : Expr) (wi : TI) : Prop :=
  ∀ (pins : List (Addr × Obj)) (s : Shared) (σ : St) (H : Hp) (R : It → Hp → Prop), Inv X pins σ H s → wi σ H R →
    wpAny (model X.prog X.w) X.A (eval iter X.env) (fun v s1 => wpAny (model X.prog X.w) X.A (pyIter v) (PIE X pins σ tg R) X.xe s1) X.xe s

/-- the step ahead of the store is nothing for an iterator that keeps no tuple -/
theorem go_of {M : Model} {A : Around} {E : Value → Shared → Prop} {s : Shared} {tg : Expr} {it : Addr} {u : Value} {o : Obj} {n : String} {vs : Array Value} {Q : Unit → Shared → Prop} (ho : s.heap.get? it = some o) (hc : o.cls = .type n) (hd : o.data = .fields vs)
    (hn : ["enumerate", "zip", "dict_itemiterator", "dict_reverseitemiterator", "odict_iterator", "itertools.zip_longest", "itertools.pairwise"].contains n = false) (hQ : Q () s) : wpAny M A (letOwnedTupleGo tg (.ref it) u) Q E s := by
  unfold letOwnedTupleGo
  cases tg <;> first
    | exact wpAny_pure hQ
    | (cases u <;> first
        | exact wpAny_pure hQ
        | (refine wpAny_bind (wpAny_load ho ?_)
           rw [hc, hd]
           show wpAny M A (if (["enumerate", "zip", "dict_itemiterator", "dict_reverseitemiterator", "odict_iterator", "itertools.zip_longest", "itertools.pairwise"].contains n && vs[0]? == some (rawInt _)) = true then _ else _) Q E s
           rw [if_neg (by intro h; rw [hn, Bool.false_and] at h; cases h)]
           exact wpAny_pure hQ))

/-- the list at a, as it stands at each turn (a loop may append to it) -/
def Itl (K : PySem.W.Frag) (a : Addr) : It :=
  ⟨fun i H => ∃ xs x, SqL K H a xs ∧ xs[i]? = some x, fun i H x H' => H' = H ∧ ∀ xs, SqL K H a xs → xs[i]? = some x, fun i H => ∃ xs, SqL K H a xs ∧ xs.length ≤ i⟩
def Itt (K : PySem.W.Frag) (a : Addr) : It :=
  ⟨fun i H => ∃ xs x, SqT K H a xs ∧ xs[i]? = some x, fun i H x H' => H' = H ∧ ∀ xs, SqT K H a xs → xs[i]? = some x, fun i H => ∃ xs, SqT K H a xs ∧ xs.length ≤ i⟩
/-- lo, lo + 1, .. (n of them) -/
def Itr (lo : Int) (n : Nat) : It := ⟨fun i _ => i < n, fun i H x H' => H' = H ∧ x = .int (lo + i), fun i _ => n ≤ i⟩
theorem turn_list {P : Program} {w : World} {K : PySem.W.Frag} {tg : Expr} (a it : Addr) : Turn P w K tg (Itl K a) [it] it (fun i h => h.IsListIter it a i) where
  mem := by simp
  obj := fun i h st b hb => by
    have e : b = it := by simpa using hb
    subst e
    obtain ⟨o, e, c, d⟩ := st
    exact ⟨o, e, fun v z => by rw [d] at z; cases z⟩
  keep := fun i h h' st k => st.at fun o e => k it (by simp) o e
  item := by
    intro X hP hw hK hc i pins s σ H E I hf st hg
    subst hP hw hK
    obtain ⟨xs, x, hq, hx⟩ := hg
    obtain ⟨its, rv, p, hz⟩ := I.list hq
    obtain ⟨u, hu, ru⟩ := rv.get hx
    obtain ⟨f0, f1, f2, f3, f4, f5⟩ := hf it (by simp)
    refine wpAny_pyNext_list_item st p.isList (x := u) (by simpa using hu) fun h' st' sb => ?_
    have I1 : Inv X pins σ H { s with heap := h' } := I.turned (t' := s.toks) (fun b o hb e => (sb.2 b hb).trans e) f0 f1 f3 f4 f5
    obtain ⟨o, e, c, d⟩ := id st'
    exact ⟨u, rfl, go_of (s := { s with heap := h' }) e c d (by decide) ⟨x, H, I1, ru, ⟨rfl, fun ys hy => by rw [I.list_inj hy hq]; exact hx⟩, st', fun b hb => (hf b hb).1⟩⟩
  done := by
    intro X hP hw hK hc i pins s σ H E I hf st hg
    subst hP hw hK
    obtain ⟨xs, hq, hx⟩ := hg
    obtain ⟨its, rv, p, hz⟩ := I.list hq
    obtain ⟨f0, f1, f2, f3, f4, f5⟩ := hf it (by simp)
    have hl := rv.length
    exact wpAny_pyNext_list_end (I.ok.hd hc) st p.isList (by simp; omega) fun h' eb => ⟨rfl, I.turned (t' := s.toks) (fun b o hb e => eb b o hb e) f0 f1 f3 f4 f5⟩
  self := fun _ _ _ _ _ st h => wpAny_pyIter_listiter st h
theorem turn_tuple {P : Program} {w : World} {K : PySem.W.Frag} {tg : Expr} (a it : Addr) : Turn P w K tg (Itt K a) [it] it (fun i h => h.IsTupleIter it a i) where
  mem := by simp
  obj := fun i h st b hb => by
    have e : b = it := by simpa using hb
    subst e
    obtain ⟨o, e, c, d⟩ := st
    exact ⟨o, e, fun v z => by rw [d] at z; cases z⟩
  keep := fun i h h' st k => st.at fun o e => k it (by simp) o e
  item := by
    intro X hP hw hK hc i pins s σ H E I hf st hg
    subst hP hw hK
    obtain ⟨xs, x, hq, hx⟩ := hg
    obtain ⟨its, rv, p, hz⟩ := I.tuple hq
    obtain ⟨u, hu, ru⟩ := rv.get hx
    obtain ⟨f0, f1, f2, f3, f4, f5⟩ := hf it (by simp)
    refine wpAny_pyNext_tuple_item st (show s.heap.IsTuple a its.toArray from p) (x := u) (by simpa using hu) fun h' st' sb => ?_
    have I1 : Inv X pins σ H { s with heap := h' } := I.turned (t' := s.toks) (fun b o hb e => (sb.2 b hb).trans e) f0 f1 f3 f4 f5
    obtain ⟨o, e, c, d⟩ := id st'
    exact ⟨u, rfl, go_of (s := { s with heap := h' }) e c d (by decide) ⟨x, H, I1, ru, ⟨rfl, fun ys hy => by rw [I.tuple_inj hy hq]; exact hx⟩, st', fun b hb => (hf b hb).1⟩⟩
  done := by
    intro X hP hw hK hc i pins s σ H E I hf st hg
    subst hP hw hK
    obtain ⟨xs, hq, hx⟩ := hg
    obtain ⟨its, rv, p, hz⟩ := I.tuple hq
    obtain ⟨f0, f1, f2, f3, f4, f5⟩ := hf it (by simp)
    have hl := rv.length
    exact wpAny_pyNext_tuple_end (I.ok.hd hc) st (show s.heap.IsTuple a its.toArray from p) (by simp; omega) fun h' eb => ⟨rfl, I.turned (t' := s.toks) (fun b o hb e => eb b o hb e) f0 f1 f3 f4 f5⟩
  self := fun _ _ _ _ _ st h => wpAny_pyIter_tupleiter st h
theorem turn_range {P : Program} {w : World} {K : PySem.W.Frag} {tg : Expr} (it : Addr) (lo : Int) (n : Nat) : Turn P w K tg (Itr lo n) [it] it (fun i h => IsRangeIter h it (lo + (i : Nat) * 1) ((n : Int) - (i : Nat)) 1) where
  mem := by simp
  obj := fun i h st b hb => by
    have e : b = it := by simpa using hb
    subst e
    exact ⟨_, st, fun v z => by
      have z' : Data.fields _ = Data.cell v := z
      cases z'⟩
  keep := fun i h h' st k => k it (by simp) _ st
  item := by
    intro X hP hw hK hc i pins s σ H E I hf st hg
    subst hP hw hK
    obtain ⟨f0, f1, f2, f3, f4, f5⟩ := hf it (by simp)
    have W := Walks.range (prog := X.prog) (w := X.w) (I.ok.hd hc) it lo 1 n
    refine W.item i s _ _ hg st fun v h' tk hv st' kk => ?_
    obtain ⟨t, rfl⟩ := hv
    have I1 : Inv X pins σ H { s with heap := h', toks := tk } := I.turned (fun b o hb e => kk b o (by simpa using hb) e) f0 f1 f3 f4 f5
    refine ⟨_, rfl, go_of (s := { s with heap := h', toks := tk }) (n := "range_iterator") st' rfl rfl (by decide) ⟨.int (lo + i), H, I1, ⟨t, ?_⟩, ⟨rfl, rfl⟩, st', fun b hb => (hf b hb).1⟩⟩
    rw [Int.mul_one]
  done := by
    intro X hP hw hK hc i pins s σ H E I hf st hg
    subst hP hw hK
    obtain ⟨f0, f1, f2, f3, f4, f5⟩ := hf it (by simp)
    exact wpAny_pyNext_range_end (I.ok.hd hc) st (by have : n ≤ i := hg; omega) fun h' eb => ⟨rfl, I.turned (t' := s.toks) (fun b o hb e => eb b o hb e) f0 f1 f3 f4 f5⟩
  self := fun _ _ _ _ _ st h => wpAny_pyIter_rangeiter st h
end L2

namespace L2
open PySem PySem.Spec PyProof.Rows
section
variable {X : Cx} {tg : Expr}
def iList (K : PySem.W.Frag) (tl : TE) : TI := fun σ H R => tl σ H fun x H1 => ∃ a, x = .ref a ∧ (∃ xs, SqL K H1 a xs) ∧ R (Itl K a) H1
def iTup (K : PySem.W.Frag) (tl : TE) : TI := fun σ H R => tl σ H fun x H1 => ∃ a, x = .ref a ∧ (∃ xs, SqT K H1 a xs) ∧ R (Itt K a) H1
theorem pi_list {l : Expr} {tl : TE} (hl : PE X l tl) : PI X tg l (iList X.K tl) := by
  intro pins s σ H R I h
  refine thn (hl pins s σ H _ I h) fun v s1 ⟨x, H1, I1, r1, q1⟩ => ?_
  obtain ⟨a, e, ⟨xs, hq⟩, q⟩ := q1
  subst e
  cases r1
  obtain ⟨its, rv, p, hz⟩ := I1.list hq
  refine wpAny_pyIter_list p.isList ?_
  refine ⟨s1.heap.objs.size, [s1.heap.objs.size], _, _, H1, rfl, I1.kept (t' := s1.toks) fun b o e => Heap.get?_push_of_some _ e, turn_list a _, ⟨_, Heap.get?_push_size _ rfl, rfl, rfl⟩, fun b hb => ?_, q⟩
  have e : b = s1.heap.objs.size := by simpa using hb
  subst e
  exact I1.fpOk (Nat.le_refl _) (I1.hok.fresh (Nat.le_refl _))
theorem pi_tup {l : Expr} {tl : TE} (hl : PE X l tl) : PI X tg l (iTup X.K tl) := by
  intro pins s σ H R I h
  refine thn (hl pins s σ H _ I h) fun v s1 ⟨x, H1, I1, r1, q1⟩ => ?_
  obtain ⟨a, e, ⟨xs, hq⟩, q⟩ := q1
  subst e
  cases r1
  obtain ⟨its, rv, p, hz⟩ := I1.tuple hq
  refine wpAny_pyIter_tuple (show s1.heap.IsTuple a its.toArray from p) ?_
  refine ⟨s1.heap.objs.size, [s1.heap.objs.size], _, _, H1, rfl, I1.kept (t' := s1.toks) fun b o e => Heap.get?_push_of_some _ e, turn_tuple a _, ⟨_, Heap.get?_push_size _ rfl, rfl, rfl⟩, fun b hb => ?_, q⟩
  have e : b = s1.heap.objs.size := by simpa using hb
  subst e
  exact I1.fpOk (Nat.le_refl _) (I1.hok.fresh (Nat.le_refl _))
/-- a range object just made, walked -/
theorem range_it {pins : List (Addr × Obj)} {σ : St} {H : Hp} {s : Shared} {R : It → Hp → Prop} {E : Value → Shared → Prop} {lo hi : Int} {t u v : Tok} {tk : Nat} (I : Inv X pins σ H s) (h1 : -(2 ^ 62) ≤ lo) (h2 : lo < 2 ^ 62) (h3 : -(2 ^ 62) ≤ hi) (h4 : hi < 2 ^ 62)
    (q : R (Itr lo (hi - lo).toNat) H) : wpAny (model X.prog X.w) X.A (pyIter (.ref s.heap.objs.size)) (PIE X pins σ tg R) E { s with heap := s.heap.push { cls := .type "range", data := .fields #[.int lo t, .int hi u, .int 1 v] }, toks := tk } := by
  refine wpAny_pyIter_range (IsRange.new ..) (small_one h1 h2 h3 h4) ?_
  have I1 : Inv X pins σ H { s with heap := s.heap.push { cls := .type "range", data := .fields #[.int lo t, .int hi u, .int 1 v] }, toks := tk } := I.kept fun b o e => Heap.get?_push_of_some _ e
  refine ⟨(s.heap.push { cls := .type "range", data := .fields #[.int lo t, .int hi u, .int 1 v] }).objs.size, [(s.heap.push { cls := .type "range", data := .fields #[.int lo t, .int hi u, .int 1 v] }).objs.size], _, _, H, rfl,
    I1.kept (t' := tk) fun b o e => Heap.get?_push_of_some _ e, turn_range _ lo (hi - lo).toNat, ?_, fun b hb => ?_, q⟩
  · have e1 : lo + ((0 : Nat) : Int) * 1 = lo := by simp
    have e2 : (((hi - lo).toNat : Nat) : Int) - ((0 : Nat) : Int) = Builtin.Range.rangeSize lo hi 1 := by rw [rangeSize_one]; split <;> omega
    show IsRangeIter _ _ (lo + ((0 : Nat) : Int) * 1) ((((hi - lo).toNat : Nat) : Int) - ((0 : Nat) : Int)) 1
    rw [e1, e2]
    exact Heap.get?_push_size _ rfl
  · have e : b = (s.heap.push { cls := .type "range", data := .fields #[.int lo t, .int hi u, .int 1 v] }).objs.size := by simpa using hb
    subst e
    exact I1.fpOk (Nat.le_refl _) (I1.hok.fresh (Nat.le_refl _))
def iRng1 (ta : TA) : TI := fun σ H R => ta σ H fun vs H1 => ∃ j : Int, vs = [.int j] ∧ -(2 ^ 62) ≤ j ∧ j < 2 ^ 62 ∧ R (Itr 0 j.toNat) H1
theorem pi_range1 {a : Expr} {ta : TA} {p pos : Pos} (hg : Gl X "range") (hm : X.mg "range" = none) (ha : PA X [a] ta) (hs : starEach [a] X.env = [(false, eval a X.env)] := by rfl) : PI X tg (.Call (.Name "range" p) [a] [] pos) (iRng1 ta) := by
  intro pins s σ H R I h
  refine Call_ (ld_blt I hg hm boot_range (PyProof.Rows.callWith_type1 (thn (ha pos pins s σ H _ I h) fun us s1 ⟨vs, H1, I1, r1, q1⟩ => ?_) hs rfl))
  obtain ⟨j, e, q1, q2, q⟩ := q1
  subst e
  cases r1 with
  | cons r rr =>
    cases rr
    obtain ⟨t, rfl⟩ := r
    exact call_range_1 (range_it I1 (by omega) (by omega) q1 q2 (by simpa using q))
/-- W: the invariant by the turn and a measure; N: what the body is to reach -/
def tFor (wi : TI) (g : TG) (tb : TS) : TS := fun D σ H => wi σ H fun J H1 => ∃ W : Nat → Nat → St → Hp → Prop, (∃ m, W 0 m σ H1) ∧ ∀ i m σ H, W i m σ H →
  (J.stop i H ∧ D.nx σ H) ∨ (J.go i H ∧ ∃ N : St → Hp → Prop, (∀ σ' H', N σ' H' → ∃ m', m' < m ∧ W (i + 1) m' σ' H') ∧ ∀ x H', J.yld i H x H' → g x σ H' fun σ2 H2 => tb { D with nx := N, ct := N, bk := D.nx } σ2 H2)
/-- the records at fp as they stand -/
def pinsAt (fp : List Addr) (h : Heap) : List (Addr × Obj) := fp.filterMap fun b => (h.get? b).map fun o => (b, o)
theorem mem_pinsAt {fp : List Addr} {h : Heap} {b : Addr} {o : Obj} (hb : b ∈ fp) (e : h.get? b = some o) : (b, o) ∈ pinsAt fp h := List.mem_filterMap.mpr ⟨b, hb, by rw [e]; rfl⟩
theorem of_pinsAt {fp : List Addr} {h : Heap} {p : Addr × Obj} (hp : p ∈ pinsAt fp h) : p.1 ∈ fp ∧ h.get? p.1 = some p.2 := by
  obtain ⟨b, hb, e⟩ := List.mem_filterMap.mp hp
  cases q : h.get? b with
  | none => rw [q] at e; cases e
  | some o =>
    rw [q] at e
    have e' : (b, o) = p := Option.some.inj e
    subst e'
    exact ⟨hb, q⟩
theorem Inv.pinned {pins : List (Addr × Obj)} {σ : St} {H : Hp} {s : Shared} {fp : List Addr} (I : Inv X pins σ H s) (hf : ∀ b ∈ fp, FpOk X pins H b) (ho : ∀ b ∈ fp, ∃ o, s.heap.get? b = some o ∧ ∀ v, o.data ≠ .cell v) : Inv X (pins ++ pinsAt fp s.heap) σ H s :=
  I.pins_of fun p hp => (List.mem_append.mp hp).elim (fun z => I.pin p (List.mem_append_right _ z)) fun z => by
    obtain ⟨hb, e⟩ := of_pinsAt z
    obtain ⟨f0, f1, f2, _⟩ := hf p.1 hb
    obtain ⟨o, e', d⟩ := ho p.1 hb
    rw [e] at e'; cases e'
    exact ⟨e, f0, f1, f2, d⟩
theorem Inv.unpinned {pins pl : List (Addr × Obj)} {σ : St} {H : Hp} {s : Shared} (I : Inv X (pins ++ pl) σ H s) : Inv X pins σ H s := I.pins_of fun p hp => I.pin p (List.mem_append_right _ (List.mem_append_left _ hp))
theorem ps_for {iter : Expr} {body : List Stmt} {wi : TI} {g : TG} {tb : TS} {pos : Pos} (hp : PassesOwn (model X.prog X.w) X.A X.env X.xe) (hc : X.calm = true) (hi : PI X tg iter wi) (hg : PG X tg g) (hb : PSs X body tb)
    (hs : ∀ x, foldedSetIterable iter X.env x = pure x := by intro _; rfl) : PS X (.For tg iter body [] pos) (tFor wi g tb) := by
  intro pins s σ H D I h
  refine wpAny_For (thn (hi pins s σ H _ I h) fun v s1 h1 => thn h1 fun itv s2 h2 => ?_) hs
  obtain ⟨it, fp, tn, J, H2, e, I2, T, st2, f2, W, ⟨m0, w0⟩, turn⟩ := h2
  subst e
  -- what stays true of the iterator's objects through the loop
  have stat : ∀ {H' : Hp}, (∀ b ∈ fp, H' b = none) → ∀ b ∈ fp, FpOk X pins H' b := fun hn b hb => ⟨hn b hb, (f2 b hb).2⟩
  refine codeAny_forLoop_any (fun n s' => ∃ i σ' H', Inv X pins σ' H' s' ∧ tn i s'.heap ∧ (∀ b ∈ fp, H' b = none) ∧ W i n σ' H') ?_ m0 ⟨0, σ, H2, I2, st2, fun b hb => (f2 b hb).1, w0⟩
  rintro n s3 ⟨i, σ3, H3, I3, st3, fr3, w3⟩
  rcases turn i n σ3 H3 w3 with ⟨stop, qn⟩ | ⟨go, N, hN, step⟩
  · refine wpAny_passesOwn hp (thn (T.done X rfl rfl rfl hc i pins s3 σ3 H3 X.xe I3 (stat fr3) st3 stop) fun r s4 ⟨hr, I4⟩ => ?_)
    subst hr
    exact wpAny_execs_nil ⟨σ3, H3, I4, qn⟩
  · refine wpAny_passesOwn hp (thn (T.item X rfl rfl rfl hc i pins s3 σ3 H3 X.xe I3 (stat fr3) st3 go) fun r s4 ⟨u, hr, h4⟩ => ?_)
    subst hr
    refine wpAny_passesOwn hp (thn h4 fun _ s5 ⟨x, H5, I5, r5, y5, st5, fr5⟩ => ?_)
    have I5' := I5.pinned (stat fr5) (T.obj _ _ st5)
    refine wpAny_passesOwn hp (thn (hg _ s5 σ3 H5 x u _ I5' r5 (step x H5 y5)) fun _ s6 ⟨σ6, H6, I6, q6⟩ => ?_)
    refine wpAny_passesOwn hp (thn (hb _ s6 σ6 H6 _ I6 q6) fun f s7 q7 => ?_)
    have again : ∀ {σ7 : St} {H7 : Hp}, Inv X (pins ++ pinsAt fp s5.heap) σ7 H7 s7 → N σ7 H7 → ∃ m, m < n ∧ ∃ i σ' H', Inv X pins σ' H' s7 ∧ tn i s7.heap ∧ (∀ b ∈ fp, H' b = none) ∧ W i m σ' H' := fun {σ7 H7} I7 n7 => by
      obtain ⟨m', hm, w7⟩ := hN σ7 H7 n7
      refine ⟨m', hm, i + 1, σ7, H7, I7.unpinned, T.keep _ _ _ st5 fun b hb o e => (I7.pin (b, o) (List.mem_append_right _ (List.mem_append_right _ (mem_pinsAt hb e)))).1, fun b hb => ?_, w7⟩
      obtain ⟨o, e, d⟩ := T.obj _ _ st5 b hb
      exact (I7.pin (b, o) (List.mem_append_right _ (List.mem_append_right _ (mem_pinsAt hb e)))).2.1
    cases f with
    | next => obtain ⟨σ7, H7, I7, n7⟩ := q7; exact again I7 n7
    | cont => obtain ⟨σ7, H7, I7, n7⟩ := q7; exact again I7 n7
    | brk => obtain ⟨σ7, H7, I7, q7⟩ := q7; exact ⟨σ7, H7, I7.unpinned, q7⟩
    | ret v => obtain ⟨x7, σ7, H7, I7, r7, q7⟩ := q7; exact ⟨x7, σ7, H7, I7.unpinned, r7, q7⟩
end

end L2

namespace L2
open PySem PySem.Spec PyProof.Rows

abbrev R2 := V → V → Hp → VK → Prop
/-- a two-place operation on values: f is binaryOp op, inplaceOp op or compareOp op -/
def OpR (X : Cx) (f : Value → Value → Sem Value) (r : R2) : Prop :=
  ∀ (pins : List (Addr × Obj)) (s : Shared) (σ : St) (H : Hp) (x y : V) (v u : Value) (Q : VK), Inv X pins σ H s → RelV x v → RelV y u → r x y H Q →
    wpAny (model X.prog X.w) X.A (f v u) (EP X pins σ Q) X.xe s
/-- a one-place operation -/
def UnR (X : Cx) (f : Value → Sem Value) (r : V → Hp → VK → Prop) : Prop :=
  ∀ (pins : List (Addr × Obj)) (s : Shared) (σ : St) (H : Hp) (x : V) (v : Value) (Q : VK), Inv X pins σ H s → RelV x v → r x H Q →
    wpAny (model X.prog X.w) X.A (f v) (EP X pins σ Q) X.xe s
/-- a call of a value that is known (a builtin, a type) with values -/
def CallR (X : Cx) (f : Value) (r : List V → Hp → VK → Prop) : Prop :=
  ∀ (pins : List (Addr × Obj)) (s : Shared) (σ : St) (H : Hp) (xs : List V) (us : List Value) (Q : VK), Inv X pins σ H s → Vals xs us → r xs H Q →
    wpAny (model X.prog X.w) X.A (call f us) (EP X pins σ Q) X.xe s
def tOp (r : R2) (ta tb : TE) : TE := fun σ H Q => ta σ H fun x H1 => tb σ H1 fun y H2 => r x y H2 Q
def tUn (r : V → Hp → VK → Prop) (ta : TE) : TE := fun σ H Q => ta σ H fun x H1 => r x H1 Q
/-- ints in, under C, and a value out -/
def rI (C : Int → Int → Prop) (g : Int → Int → V) : R2 := fun x y H Q => ∃ i j, x = .int i ∧ y = .int j ∧ C i j ∧ Q (g i j) H
def rI0 (g : Int → Int → V) : R2 := fun x y H Q => ∃ i j, x = .int i ∧ y = .int j ∧ Q (g i j) H
def rU (g : Int → V) : V → Hp → VK → Prop := fun x H Q => ∃ i, x = .int i ∧ Q (g i) H

section
variable {X : Cx} {a b c : Expr} {ta tb tc : TE} {pos : Pos}

theorem binT (ha : PE X a ta) (hb : PE X b tb) {pins : List (Addr × Obj)} {s : Shared} {σ : St} {H : Hp} {R : V → V → Hp → Prop} (I : Inv X pins σ H s)
    (h : ta σ H fun x H1 => tb σ H1 fun y H2 => R x y H2) {Q : Value → Shared → Prop} {f : Value → Value → Sem Value}
    (hf : ∀ v u s2 x y H2, Inv X pins σ H2 s2 → RelV x v → RelV y u → R x y H2 → wpAny (model X.prog X.w) X.A (f v u) Q X.xe s2) :
    wpAny (model X.prog X.w) X.A (eval a X.env) (fun v s₁ => wpAny (model X.prog X.w) X.A (eval b X.env) (fun u s₂ => wpAny (model X.prog X.w) X.A (f v u) Q X.xe s₂) X.xe s₁) X.xe s := by
  refine thn (ha pins s σ H _ I h) fun v s1 ⟨x, H1, I1, r1, q1⟩ => ?_
  refine thn (hb pins s1 σ H1 _ I1 q1) fun u s2 ⟨y, H2, I2, r2, q2⟩ => ?_
  exact hf v u s2 x y H2 I2 r1 r2 q2

theorem pe_op {op : Operator} {r : R2} (ho : OpR X (binaryOp op) r) (ha : PE X a ta) (hb : PE X b tb) : PE X (.BinOp a op b pos) (tOp r ta tb) := by
  intro pins s σ H Q I h
  exact wpAny_BinOp (binT ha hb I h fun v u s2 x y H2 I2 rx ry q => ho pins s2 σ H2 x y v u Q I2 rx ry q)
theorem pe_un {op : UnaryOp} {r : V → Hp → VK → Prop} (ho : UnR X (unaryOp op) r) (ha : PE X a ta) : PE X (.UnaryOp op a pos) (tUn r ta) := by
  intro pins s σ H Q I h
  exact UnaryOp_ (thn (ha pins s σ H _ I h) fun v s1 ⟨x, H1, I1, r1, q1⟩ => ho pins s1 σ H1 x v Q I1 r1 q1)
theorem opI {f : Value → Value → Sem Value} {C : Int → Int → Prop} {g : Int → Int → Int}
    (rule : ∀ (i j : Int) (t u : Tok) (s : Shared) (Q : Value → Shared → Prop) (E : Value → Shared → Prop), C i j → Q (.int (g i j) s.toks) { s with toks := s.toks + 1 } → wpAny (model X.prog X.w) X.A (f (.int i t) (.int j u)) Q E s) :
    OpR X f (rI C fun i j => .int (g i j)) := by
  intro pins s σ H x y v u Q I rx ry h
  obtain ⟨i, j, rfl, rfl, hc, q⟩ := h
  obtain ⟨t, rfl⟩ := rx
  obtain ⟨t', rfl⟩ := ry
  exact rule i j t t' s _ _ hc ⟨.int (g i j), H, I.tok _, ⟨_, rfl⟩, q⟩
theorem opI0 {f : Value → Value → Sem Value} {g : Int → Int → Int}
    (rule : ∀ (i j : Int) (t u : Tok) (s : Shared) (Q : Value → Shared → Prop) (E : Value → Shared → Prop), Q (.int (g i j) s.toks) { s with toks := s.toks + 1 } → wpAny (model X.prog X.w) X.A (f (.int i t) (.int j u)) Q E s) :
    OpR X f (rI0 fun i j => .int (g i j)) := by
  intro pins s σ H x y v u Q I rx ry h
  obtain ⟨i, j, rfl, rfl, q⟩ := h
  obtain ⟨t, rfl⟩ := rx
  obtain ⟨t', rfl⟩ := ry
  exact rule i j t t' s _ _ ⟨.int (g i j), H, I.tok _, ⟨_, rfl⟩, q⟩
theorem opB0 {f : Value → Value → Sem Value} {g : Int → Int → Bool}
    (rule : ∀ (i j : Int) (t u : Tok) (s : Shared) (Q : Value → Shared → Prop) (E : Value → Shared → Prop), Q (.bool (g i j)) s → wpAny (model X.prog X.w) X.A (f (.int i t) (.int j u)) Q E s) :
    OpR X f (rI0 fun i j => .bl (g i j)) := by
  intro pins s σ H x y v u Q I rx ry h
  obtain ⟨i, j, rfl, rfl, q⟩ := h
  obtain ⟨t, rfl⟩ := rx
  obtain ⟨t', rfl⟩ := ry
  exact rule i j t t' s _ _ ⟨.bl (g i j), H, I, rfl, q⟩

def CDiv (i j : Int) : Prop := 0 < j ∧ j < 1073741824
def CPow (i j : Int) : Prop := 0 ≤ j ∧ j ≤ 1000000 ∧ i.natAbs < 2 ^ 64
def CMul (i j : Int) : Prop := (-(2 ^ 64) < i ∧ i < 2 ^ 64) ∨ (-(2 ^ 64) < j ∧ j < 2 ^ 64)
theorem CMul.ok {i j : Int} (h : CMul i j) : IntMulOk i j := by
  rcases h with ⟨h1, h2⟩ | ⟨h1, h2⟩
  · exact .of_left (intBits_le_64 h1 h2)
  · exact .of_right (intBits_le_64 h1 h2)
theorem op_add : OpR X (binaryOp .Add) (rI0 fun i j => .int (i + j)) := opI0 fun _ _ _ _ _ _ _ q => add_int q
theorem op_sub : OpR X (binaryOp .Sub) (rI0 fun i j => .int (i - j)) := opI0 fun _ _ _ _ _ _ _ q => sub_int q
theorem op_mul : OpR X (binaryOp .Mult) (rI CMul fun i j => .int (i * j)) := opI fun _ _ _ _ _ _ _ hc q => mul_int q hc.ok
/-- // by a positive divisor -/
theorem op_fdiv : OpR X (binaryOp .FloorDiv) (rI CDiv fun i j => .int (i / j)) := opI fun i j _ _ _ _ _ hc q => by
  have h1 : (0 : Int) < j := hc.1
  have h2 : j < 1073741824 := hc.2
  exact floordiv_int (by omega) (by rw [Int.fdiv_eq_ediv_of_nonneg i (by omega)]; exact q) (.inl (PyProof.noPylong_small (by omega)))
/-- % by a positive divisor of any size -/
theorem op_mod : OpR X (binaryOp .Mod) (rI (fun _ j => 0 < j) fun i j => .int (i % j)) := opI fun i j _ _ _ _ _ hc q => by
  have h1 : (0 : Int) < j := hc
  exact mod_int' (by omega) (by rw [Int.fmod_eq_emod_of_nonneg i (by omega)]; exact q)
theorem op_pow : OpR X (binaryOp .Pow) (rI CPow fun i j => .int (i ^ j.toNat)) := opI fun _ _ _ _ _ _ _ hc q => pow_int_small hc.1 hc.2.1 hc.2.2 q
theorem unI {f : Value → Sem Value} {g : Int → Int}
    (rule : ∀ (i : Int) (t : Tok) (s : Shared) (Q : Value → Shared → Prop) (E : Value → Shared → Prop), Q (.int (g i) s.toks) { s with toks := s.toks + 1 } → wpAny (model X.prog X.w) X.A (f (.int i t)) Q E s) :
    UnR X f (rU fun i => .int (g i)) := by
  intro pins s σ H x v Q I rx h
  obtain ⟨i, rfl, q⟩ := h
  obtain ⟨t, rfl⟩ := rx
  exact rule i t s _ _ ⟨.int (g i), H, I.tok _, ⟨_, rfl⟩, q⟩
theorem un_neg : UnR X (unaryOp .USub) (rU fun i => .int (-i)) := unI fun _ _ _ _ _ q => neg_int q
end

section
variable {X : Cx} {a b c : Expr} {ta tb tc : TE} {pos : Pos}
theorem fin_bl {pins : List (Addr × Obj)} {σ : St} {H : Hp} {s : Shared} {Q : VK} {k k' : Bool} (I : Inv X pins σ H s) (q : Q (.bl k) H) (e : k = k') : EP X pins σ Q (.bool k') s := by
  subst e
  exact ⟨.bl k, H, I, rfl, q⟩
theorem op_lt : OpR X (compareOp .Lt) (rI0 fun i j => .bl (decide (i < j))) := opB0 fun _ _ _ _ _ _ _ q => lt_int q
theorem op_le : OpR X (compareOp .LtE) (rI0 fun i j => .bl (decide (i ≤ j))) := opB0 fun _ _ _ _ _ _ _ q => le_int q
theorem op_gt : OpR X (compareOp .Gt) (rI0 fun i j => .bl (decide (j < i))) := opB0 fun _ _ _ _ _ _ _ q => gt_int q
theorem op_ge : OpR X (compareOp .GtE) (rI0 fun i j => .bl (decide (j ≤ i))) := opB0 fun _ _ _ _ _ _ _ q => ge_int q
/-- the one string within the other -/
theorem op_in_str : OpR X (compareOp .In) (fun x y H Q => ∃ i j, x = .str i ∧ y = .str j ∧ Q (.bl (!(Builtin.Str.occurrences j i 0 j.length 1).isEmpty)) H) := by
  intro pins s σ H x y v u Q I rx ry h
  obtain ⟨i, j, rfl, rfl, q⟩ := h
  obtain ⟨t, rfl⟩ := rx
  obtain ⟨t', rfl⟩ := ry
  exact in_str (fin_bl I q rfl)

theorem op_notin_str : OpR X (compareOp .NotIn) (fun x y H Q => ∃ i j, x = .str i ∧ y = .str j ∧ Q (.bl (!(!(Builtin.Str.occurrences j i 0 j.length 1).isEmpty))) H) := by
  intro pins s σ H x y v u Q I rx ry h
  obtain ⟨i, j, rfl, rfl, q⟩ := h
  obtain ⟨t, rfl⟩ := rx
  obtain ⟨t', rfl⟩ := ry
  exact notIn_str (fin_bl I q rfl)
/-- two rules for one operation: by cases -/
theorem OpR.or {f : Value → Value → Sem Value} {r r' : R2} (h : OpR X f r) (h' : OpR X f r') : OpR X f (fun x y H Q => r x y H Q ∨ r' x y H Q) := by
  intro pins s σ H x y v u Q I rx ry q
  rcases q with q | q
  · exact h pins s σ H x y v u Q I rx ry q
  · exact h' pins s σ H x y v u Q I rx ry q

theorem nomark (b : Expr) {op : CmpOp} (h : op ≠ .In := by decide) (h2 : op ≠ .NotIn := by decide) : behindInMarks op b = false := by
  have e1 : (op == CmpOp.In) = false := by cases op <;> first | rfl | exact absurd rfl h
  have e2 : (op == CmpOp.NotIn) = false := by cases op <;> first | rfl | exact absurd rfl h2
  cases b <;> simp [behindInMarks, e1, e2]
/-- a comparison as a value; hm: nomark b, or (for in, not in) by with_unfolding_all rfl -/
theorem pe_cmpR {op : CmpOp} {r : R2} (ho : OpR X (compareOp op) r) (ha : PE X a ta) (hb : PE X b tb) (hm : behindInMarks op b = false) : PE X (.Compare a [op] [b] pos) (tOp r ta tb) := by
  intro pins s σ H Q I h
  exact wpAny_Compare1 (binT ha hb I h fun v u s2 x y H2 I2 rx ry q => ho pins s2 σ H2 x y v u Q I2 rx ry q) hm
/-- a reading of a value as a test -/
def tTest (t : TE) : TT := fun σ H Q => t σ H fun x H' => ∃ k, x = .bl k ∧ Q k H'
theorem pt_cmpR {op : CmpOp} {r : R2} (ho : OpR X (compareOp op) r) (ha : PE X a ta) (hb : PE X b tb) (hm : behindInMarks op b = false) : PT X (.Compare a [op] [b] pos) (tTest (tOp r ta tb)) := by
  intro pins s σ H Q I h
  refine wpAny_isTrue_Compare1 (thn (ha pins s σ H _ I h) fun v s1 ⟨x, H1, I1, r1, q1⟩ => thn (hb pins s1 σ H1 _ I1 q1) fun u s2 ⟨y, H2, I2, r2, q2⟩ =>
    thn (ho pins s2 σ H2 x y v u _ I2 r1 r2 q2) fun c s3 ⟨z, H3, I3, r3, k, e, q3⟩ => ?_) hm
  subst e
  cases r3
  exact wpAny_truthy_bool ⟨H3, I3, q3⟩
theorem line63 : (sizeLine : Nat) < 2 ^ 63 := by rw [sizeLine_eq]; decide
theorem op_add_str : OpR X (binaryOp .Add) (fun x y H Q => ∃ i j, x = .str i ∧ y = .str j ∧ i.length + j.length ≤ sizeLine ∧ Q (.str (i ++ j)) H) := by
  intro pins s σ H x y v u Q I rx ry h
  obtain ⟨i, j, rfl, rfl, hz, q⟩ := h
  obtain ⟨t, rfl⟩ := rx
  obtain ⟨t', rfl⟩ := ry
  exact add_str (fun t' tk => ⟨.str (i ++ j), H, I.tok _, ⟨_, rfl⟩, q⟩) hz
theorem vals1 {x : V} {us : List Value} (r : Vals [x] us) : ∃ u, us = [u] ∧ RelV x u := by
  cases r with
  | cons r1 r2 => cases r2; exact ⟨_, rfl, r1⟩
end
end L2

namespace L2
open PySem PySem.Spec PyProof.Rows

structure ObjM (h : Heap) (x dx C : Addr) (mA : Str → Option Value) : Prop where
  obj : h.get? x = some (PySem.W.instObj C dx)
  ns : h.Ns1 dx mA
  ne : dx ≠ x

theorem lookIn_ns {h : Heap} {dx : Addr} {mA : Str → Option Value} (n : h.Ns1 dx mA) : ∃ od, h.get? dx = some od ∧ ∀ name, PySem.W.lookIn name od = some (mA name) := by
  obtain ⟨o, es, ep, ho, hd, hk, _, hm⟩ := n
  refine ⟨o, ho, fun name => ?_⟩
  have e := hm name
  unfold nsFind findBy at e
  rw [← Array.find?_toList] at e
  unfold PySem.W.lookIn
  rw [hd]
  dsimp only
  split
  · rename_i y q
    rw [q] at e
    exact congrArg some e
  · rename_i q
    rw [q] at e
    have a : es.toList.any (·.refKey) = false := by
      rw [List.any_eq_false]
      intro y hy
      obtain ⟨z, t, hkey⟩ := hk y (Array.mem_toList_iff.mp hy)
      simp [DictEntry.refKey, hkey]
    have a' : ¬ es.toList.any (·.refKey) = true := by rw [a]; exact Bool.false_ne_true
    rw [if_neg a']
    exact congrArg some e

theorem ObjM.look {h : Heap} {x dx C : Addr} {mA : Str → Option Value} (I : ObjM h x dx C mA) : ∃ od, PySem.W.InstAt h x (PySem.W.instObj C dx) C (some od) ∧ ∀ name, PySem.W.lookIn name od = some (mA name) :=
  let ⟨od, ho, hl⟩ := lookIn_ns I.ns
  ⟨od, ⟨I.obj, rfl, rfl, ho⟩, hl⟩

section
variable {prog : Program} {w : World} {A : Around} {E : Value → Shared → Prop} {s : Shared} {K : PySem.W.Frag} {x dx C f : Addr} {mA : Str → Option Value} {name : Str} {v : Value}

end

section
variable {P : Program} {w : World} {H H' : Hp} {h h' : Heap} {a C dx : Addr} {fs fs' : List (Str × V)}
theorem ins_get (hok : HOk P w H h) (e : H a = some (.ins C dx fs)) : ∃ mA, ObjM h a dx C mA ∧ (∀ f, RelO (fs.lookup f) (mA f)) ∧ PySem.Within mA (fs.map (·.1)) ∧ fs.length ≤ 1000 ∧ H dx = some (.own a) := by
  obtain ⟨d, z, ne, ob, mA, n, r, q⟩ := (show ObjOk P w H h a (.ins C dx fs) from hok a _ e)
  exact ⟨mA, ⟨ob, n, ne⟩, r, q, z, d⟩
end

structure Cls (K : PySem.W.Frag) (C : Addr) : Prop where
  pg : PySem.W.plainGet K C Str.empty = true
  hd : PySem.W.hasDictIn K C = true
  po : PySem.W.plainOver K C = true
  sa : PySem.W.findIn K (.ref C) "__setattr__" = some (some (.builtin "object.__setattr__"))
theorem Cls.get {K : PySem.W.Frag} {C : Addr} (c : Cls K C) (f : Str) : PySem.W.plainGet K C f = true := c.pg
section
variable {X : Cx} {pins : List (Addr × Obj)} {σ : St} {H : Hp} {s : Shared} {a C dx : Addr} {fs : List (Str × V)} {f : Str} {v : V} {A : Around} {E : Value → Shared → Prop}

/-- a new instance, tracked, without attributes -/
theorem Inv.made (I : Inv X pins σ H s) : Inv X pins σ (upd (upd H s.heap.objs.size (.own (s.heap.objs.size + 1))) (s.heap.objs.size + 1) (.ins C s.heap.objs.size []))
    { s with heap := (s.heap.push PySem.W.emptyDict).push (PySem.W.instObj C s.heap.objs.size) } := by
  have e1 : (s.heap.push PySem.W.emptyDict).get? s.heap.objs.size = some PySem.W.emptyDict := Heap.get?_push_size s.heap rfl
  have e2 : ((s.heap.push PySem.W.emptyDict).push (PySem.W.instObj C s.heap.objs.size)).get? (s.heap.objs.size + 1) = some (PySem.W.instObj C s.heap.objs.size) := by
    have := Heap.get?_push_size (s.heap.push PySem.W.emptyDict) (o := PySem.W.instObj C s.heap.objs.size) rfl
    rwa [Heap.size_push] at this
  have e3 : (s.heap.push PySem.W.emptyDict).Ns s.heap.objs.size (fun _ => none) := ⟨PySem.W.emptyDict, #[], _, e1, rfl, (fun e he => absurd he (by simp)), fun _ => rfl⟩
  have I1 := I.laid (a := s.heap.objs.size) (o := .own (s.heap.objs.size + 1)) (h' := s.heap.push PySem.W.emptyDict) (t' := s.toks) (fun b u q => Heap.get?_push_of_some _ q) (Nat.le_refl _) ⟨_, e1⟩
  refine I1.laid (a := s.heap.objs.size + 1) (o := .ins C s.heap.objs.size []) (t' := s.toks) (fun b u q => Heap.get?_push_of_some _ q) (Nat.le_of_eq (Heap.size_push _ _)) ?_
  have ne : s.heap.objs.size ≠ s.heap.objs.size + 1 := Nat.ne_of_lt (Nat.lt_succ_self _)
  refine ⟨by rw [upd_ne ne, upd_same], Nat.zero_le _, ne, e2, fun _ => none, (Heap.Ns1.of_empty e3).at fun o q => Heap.get?_push_of_some _ q, fun _ => True.intro, fun y hy => absurd rfl hy⟩

end

section
variable {X : Cx} {o e value : Expr} {f : Str} {pos pos' tpos : Pos} {ta tv : TE}
end

section
variable {X : Cx} {pins : List (Addr × Obj)} {σ : St} {H : Hp} {s : Shared} {A : Around} {E : Value → Shared → Prop} {Q : Value → Shared → Prop} {c : Value} {b : Bool}
/-- the type of a value, as the fragment's deciders take it; for an instance its class -/
inductive TyOf (K : PySem.W.Frag) (H : Hp) : V → Value → Prop where
  | non : TyOf K H .non (.type "NoneType")
  | bl (x : Bool) : TyOf K H (.bl x) (.type "bool")
  | int (i : Int) : TyOf K H (.int i) (.type "int")
  | str (x : Str) : TyOf K H (.str x) (.type "str")
  | flt (x : UInt64) : TyOf K H (.flt x) (.type "float")
  | lst {a : Addr} {xs : List V} (e : H a = some (.lst xs)) : TyOf K H (.ref a) (.type "list")
  | frz {a : Addr} {o : Obj} {xs : List V} (e : H a = some (.frz o (.lst xs))) : TyOf K H (.ref a) (.type "list")
  | tup {a : Addr} {xs : List V} (e : H a = some (.tup xs)) : TyOf K H (.ref a) (.type "tuple")
  | dK {a : Addr} {kvs : List (Key × V)} (e : H a = some (.dK kvs)) : TyOf K H (.ref a) (.type "dict")
  | dT {a : Addr} {kvs : List (List Key × V)} (e : H a = some (.dT kvs)) : TyOf K H (.ref a) (.type "dict")
  | ins {a C dx : Addr} {fs : List (Str × V)} (e : H a = some (.ins C dx fs)) (cl : Cls K C) (ha : PySem.W.findIn K (.ref C) "__class__" = some (some (.builtin "object.__class__")))
      (hn : PySem.W.specialIn K (.builtin "object.__class__") "__get__" = some (some (.builtin "getset_descriptor.__get__"))) (htk : PySem.W.takesIn K (.builtin "object.__class__") = some true)
      (hm : PySem.W.mroIn K C (.type "object") = some true) : TyOf K H (.ref a) (.ref C)
/-- isinstance(x, c) for one class c, a built-in or an own one: kitOne's answer -/
theorem isinst_ok {x : V} {u t : Value} (I : Inv X pins σ H s) (rx : RelV x u) (ty : TyOf X.K H x t) (e : PySem.W.kitOne X.K t c = some b) (h : ∀ tk, Q (.bool b) { s with toks := tk }) :
    wpAny (model X.prog X.w) A (call (.builtin "isinstance") [u, c]) Q E s := by
  cases ty with
  | non => cases (show u = Value.none from rx); exact PySem.W.kia_one PySem.W.kitx_none I.kIn True.intro e (fun z => nomatch z) h
  | bl y => cases (show u = Value.bool y from rx); exact PySem.W.kia_one PySem.W.kitx_bool I.kIn True.intro e (fun z => nomatch z) h
  | int i => obtain ⟨t, q⟩ := (show ∃ t, u = Value.int i t from rx); cases q; exact PySem.W.kia_one PySem.W.kitx_int I.kIn True.intro e (fun z => nomatch z) h
  | str y => obtain ⟨t, q⟩ := (show ∃ t, u = Value.str y t from rx); cases q; exact PySem.W.kia_one PySem.W.kitx_str I.kIn True.intro e (fun z => nomatch z) h
  | flt y => obtain ⟨t, q⟩ := (show ∃ t, u = Value.float y t from rx); cases q; exact PySem.W.kia_one PySem.W.kitx_float I.kIn True.intro e (fun z => nomatch z) h
  | @lst a xs ea =>
    cases (show u = Value.ref a from rx)
    obtain ⟨_, _, n, _, h1⟩ := (show ObjOk X.prog X.w H s.heap a (.lst xs) from I.hok a _ ea)
    exact PySem.W.kia_one PySem.W.kitx_list I.kIn ⟨_, h1, rfl⟩ e (fun z => nomatch z) h
  | @frz a ob xs ea =>
    cases (show u = Value.ref a from rx)
    obtain ⟨_, _, _, n, _, h1⟩ := (show ObjOk X.prog X.w H s.heap a (.frz ob (.lst xs)) from I.hok a _ ea)
    exact PySem.W.kia_one PySem.W.kitx_list I.kIn ⟨_, h1, rfl⟩ e (fun z => nomatch z) h
  | @tup a xs ea =>
    cases (show u = Value.ref a from rx)
    obtain ⟨_, _, _, p⟩ := (show ObjOk X.prog X.w H s.heap a (.tup xs) from I.hok a _ ea)
    obtain ⟨o, h1, h2, _⟩ := p
    exact PySem.W.kia_one PySem.W.kitx_tuple I.kIn ⟨o, h1, h2⟩ e (fun z => nomatch z) h
  | @dK a kvs ea =>
    cases (show u = Value.ref a from rx)
    obtain ⟨_, _, vs, _, p⟩ := (show ObjOk X.prog X.w H s.heap a (.dK kvs) from I.hok a _ ea)
    obtain ⟨o, es, ep, h1, h2, _⟩ := p
    exact PySem.W.kia_one PySem.W.kitx_dict I.kIn ⟨o, h1, h2.1⟩ e (fun z => nomatch z) h
  | @dT a kvs ea =>
    cases (show u = Value.ref a from rx)
    obtain ⟨_, _, xs, _, o, es, ep, h1, h2, _⟩ := (show ObjOk X.prog X.w H s.heap a (.dT kvs) from I.hok a _ ea)
    exact PySem.W.kia_one PySem.W.kitx_dict I.kIn ⟨o, h1, h2.1⟩ e (fun z => nomatch z) h
  | @ins a C dx fs ea cl ha hn htk hm =>
    cases (show u = Value.ref a from rx)
    obtain ⟨mA, O, _⟩ := ins_get I.hok ea
    obtain ⟨od, J, _⟩ := O.look
    exact PySem.W.kia_one (PySem.W.kitx_own (cl.get _) cl.hd ha hn htk hm) I.kIn J e (fun z => nomatch z) h
end
end L2

namespace L2
open PySem PySem.Spec PyProof.Rows

structure Room (k : Nat) (A : Around) : Prop where
  hd : A.handled = none
  dp : A.depth + 2 * k + 5 < recursionLimit
  un : A.units + 16 * k + 200 < cLine
theorem Room.mono {j k : Nat} {A : Around} (r : Room k A) (h : j ≤ k) : Room j A := ⟨r.hd, by have := r.dp; omega, by have := r.un; omega⟩
theorem Room.deeper {k : Nat} {A : Around} (r : Room (k + 1) A) (env : Env) : Room k (A.deeper env) :=
  ⟨r.hd, by have := r.dp; show A.depth + 1 + 2 * k + 5 < _; omega, by have := r.un; show A.units + 3 + 16 * k + 200 < _; omega⟩
theorem Room.in1 {k : Nat} {A : Around} (r : Room (k + 1) A) : Room k A.in1 :=
  ⟨r.hd, by have := r.dp; show A.depth + 2 * k + 5 < _; omega, by have := r.un; show A.units + 1 + 16 * k + 200 < _; omega⟩
theorem Room.depth {k : Nat} {A : Around} (r : Room k A) : A.depth < recursionLimit := by have := r.dp; omega
theorem Room.units {k : Nat} {A : Around} (r : Room k A) : A.units + 64 < cLine := by have := r.un; omega
def tNil : TA := fun _ H Q => Q [] H
def tCons (ta : TE) (tr : TA) : TA := fun σ H Q => ta σ H fun x H1 => tr σ H1 fun xs H2 => Q (x :: xs) H2
section
variable {X : Cx} {e : Expr} {es : List Expr} {te : TE} {t : TA} {pos : Pos}
theorem pa_nil : PA X [] tNil := fun _ _ _ _ H Q I h => Calls.spliced_nil ⟨[], H, I, .nil, h⟩
theorem pa_cons (ha : PE X e te) (hr : PA X es t) (hs : starEach (e :: es) X.env = (false, eval e X.env) :: starEach es X.env := by rfl) : PA X (e :: es) (tCons te t) := by
  intro pos pins s σ H Q I h
  rw [hs]
  show wpAny _ _ (spliced ((false, eval e X.env) :: backTo pos (starEach es X.env))) _ _ s
  refine Calls.spliced_cons (thn (ha pins s σ H _ I h) fun u s1 ⟨x, H1, I1, r1, q1⟩ => ?_)
  exact thn (hr pos pins s1 σ H1 _ I1 q1) fun us s2 ⟨xs, H2, I2, r2, q2⟩ => ⟨x :: xs, H2, I2, .cons r1 r2, q2⟩

end

/-- a def's promise: the bound arguments in the parameters' order, the heap, the wanted end, the wanted exception -/
abbrev Sp := List V → Hp → VK → XK → Prop
/-- how an exception lies behind a call (file 08 gives it): the callers' frames, abstract heap and state ahead of the call, the wish, the exception, the state -/
abbrev CXT := List Env → Hp → Shared → XK → Value → Shared → Prop

/-- the state at a call -/
structure Env0 (P : Program) (w : World) (K : PySem.W.Frag) (mg : Str → Option Value) (base : Heap) (A : Around) (outer : List Env) (s : Shared) (H : Hp) : Prop where
  frames : A.frames = some outer
  mod : Mod K mg base
  bs : ∀ b o, base.get? b = some o → s.heap.get? b = some o ∧ H b = none
  bsz : base.objs.size ≤ s.heap.objs.size
  funs : s.heap.FunFrames base outer
  frf : ∀ b ∈ frs outer, H b = none
  hok : HOk P w H s.heap
  bare : AllBare s.gens
/-- a call's end -/
def CE (outer : List Env) (P : Program) (w : World) (H : Hp) (s : Shared) (Q : VK) (u : Value) (s' : Shared) : Prop :=
  ∃ v H', s'.os = s.os ∧ AllBare s'.gens ∧ Un (frs outer) [] H H' s.heap s'.heap ∧ HOk P w H' s'.heap ∧ RelV v u ∧ Q v H'
def CR (CX : CXT) (outer : List Env) (P : Program) (w : World) (H : Hp) (s : Shared) (Q : VK) (E : XK) (r : Result) (s' : Shared) : Prop :=
  match r with
  | .ok (.ret u) => CE outer P w H s Q u s'
  | .ok _ => False
  | .error e => CX outer H s E e s'
structure FnOk (P : Program) (w : World) (K : PySem.W.Frag) (mg : Str → Option Value) (base : Heap) (CX : CXT) (k : Nat) (f : Addr) (fd : FuncData) (ps : List Str) (sp : Sp) : Prop where
  len : ∀ vs H Q E, sp vs H Q E → vs.length = ps.length
  run : ∀ (A : Around) (outer : List Env) (s : Shared) (H : Hp) (args : Args) (us : List Value) (vs : List V) (Q : VK) (E : XK), Room k A → Env0 P w K mg base A outer s H → BindsTo s fd args (ps.zip us) → Vals vs us → sp vs H Q E →
    codeAny (model P w) A (.call (.ref f) args) (CR CX outer P w H s Q E) s
theorem FnOk.mono {P : Program} {w : World} {K : PySem.W.Frag} {mg : Str → Option Value} {base : Heap} {CX : CXT} {j k : Nat} {f : Addr} {fd : FuncData} {ps : List Str} {sp : Sp} (F : FnOk P w K mg base CX j f fd ps sp) (h : j ≤ k) :
    FnOk P w K mg base CX k f fd ps sp := ⟨F.len, fun A outer s H args us vs Q E hr => F.run A outer s H args us vs Q E (hr.mono h)⟩
/-- a weaker promise -/
theorem FnOk.imp {P : Program} {w : World} {K : PySem.W.Frag} {mg : Str → Option Value} {base : Heap} {CX : CXT} {k : Nat} {f : Addr} {fd : FuncData} {ps : List Str} {sp sp' : Sp} (F : FnOk P w K mg base CX k f fd ps sp)
    (h : ∀ vs H Q E, sp' vs H Q E → sp vs H Q E) : FnOk P w K mg base CX k f fd ps sp' :=
  ⟨fun vs H Q E q => F.len vs H Q E (h _ _ _ _ q), fun A outer s H args us vs Q E hr he hb hv hs => F.run A outer s H args us vs Q E hr he hb hv (h _ _ _ _ hs)⟩

theorem Env0.in1 {P : Program} {w : World} {K : PySem.W.Frag} {mg : Str → Option Value} {base : Heap} {A : Around} {outer : List Env} {s : Shared} {H : Hp} (e : Env0 P w K mg base A outer s H) :
    Env0 P w K mg base A.in1 outer s H := ⟨e.frames, e.mod, e.bs, e.bsz, e.funs, e.frf, e.hok, e.bare⟩

section
variable {X : Cx} {pins : List (Addr × Obj)} {σ : St} {H : Hp} {s s' : Shared}
/-- from a body: what a callee wants -/
theorem Inv.env0 (I : Inv X pins σ H s) : Env0 X.prog X.w X.K X.mg X.base X.A X.stack s H :=
  ⟨I.ok.frames, I.ok.mod, I.bs, Nat.le_trans I.ok.bsz I.sz, I.stack, I.stkFree, I.hok, I.bare⟩
/-- behind a call -/
theorem Inv.after {Q : VK} {u : Value} (I : Inv X pins σ H s) (h : CE X.stack X.prog X.w H s Q u s') : EP X pins σ Q u s' := by
  obtain ⟨v, H', os, bare, un, hok, r, q⟩ := h
  obtain ⟨hh, g, d, t, os'⟩ := s'
  obtain rfl : os' = s.os := os
  exact ⟨v, H', I.call (h' := hh) (g' := g) (d' := d) (t' := t) (ch := []) un hok bare (fun b z => absurd z (by simp)), r, q⟩
end

/-- how the parameters are bound: us the positional arguments, kw the keywords' values by name, ds the defaults that fill up -/
def Binds (K : PySem.W.Frag) (fd : FuncData) (ps : List Str) (ds : List Value) : Prop :=
  ∀ (s : Shared) (us : List Value), K.In s.heap → (us ++ ds).length = ps.length → BindsTo s fd ⟨us, []⟩ (ps.zip (us ++ ds))
/-- every parameter is given -/
theorem Binds.all {K : PySem.W.Frag} {fd : FuncData} {ps : List Str} (h : ∀ us : List Value, us.length = ps.length → bindArgs fd ⟨us, []⟩ = pure (ps.zip us)) : Binds K fd ps [] := fun s us _ hl => by
  rw [List.append_nil] at hl ⊢
  exact .of_eq (h us hl)

section
variable {X : Cx} {CX : CXT} {k : Nat} {f C : Addr} {fd : FuncData} {ps : List Str} {sp : Sp} {dvs : List V} {ds : List Value} {E : XK} {x m : Str} {p pos apos : Pos} {e o : Expr} {es : List Expr} {ta : TE} {t : TA}

end

section
variable {X : Cx} {CX : CXT} {k : Nat} {f C : Addr} {fd : FuncData} {ps ks : List Str} {sp : Sp} {E : XK} {x m : Str} {p pos apos kpos : Pos} {e o : Expr} {es : List Expr} {kws : List Keyword} {te ta : TE} {t tk : TA} {nm : Option Str}
variable {g : List Value → List Value → List Value} {gV : List V → List V → List V}
end

/-- names: the parameters first -/
structure FnScope (N P : List Str) (sc : Scope) : Prop where
  kind : sc.kind = .function
  co : sc.isCoroutine = false
  gen : sc.isGenerator = false
  nd : N.Nodup
  pre : N.take P.length = P
  par : ∀ x ∈ P, sc.names.lookup x = some .local ∨ sc.names.lookup x = some .cell
  nofree : ∀ y ∈ sc.names, y.2 ≠ .free

theorem bindL_out {kindOf : Str → Option NameKind} {x : Str} : ∀ {binds : List (Str × Value)} {m : Str → Option Value}, (∀ v, (x, v) ∉ binds) → bindL kindOf binds m x = m x
  | [], _, _ => rfl
  | (n, v) :: r, m, h => by
    unfold bindL
    rw [bindL_out fun w hw => h w (List.mem_cons_of_mem _ hw)]
    split
    · have : x ≠ n := by rintro rfl; exact h v List.mem_cons_self
      simp [this]
    · rfl
theorem bindC_out {kindOf : Str → Option NameKind} {x : Str} : ∀ {binds : List (Str × Value)} {m : Str → Option Value}, (∀ v, (x, v) ∉ binds) → bindC kindOf binds m x = m x
  | [], _, _ => rfl
  | (n, v) :: r, m, h => by
    unfold bindC
    rw [bindC_out fun w hw => h w (List.mem_cons_of_mem _ hw)]
    split
    · rfl
    · have : x ≠ n := by rintro rfl; exact h v List.mem_cons_self
      simp [this]
theorem bindL_get {kindOf : Str → Option NameKind} {x : Str} {v : Value} : ∀ {P : List Str} {vs : List Value} {i : Nat} {m : Str → Option Value}, P.Nodup → P[i]? = some x → vs[i]? = some v → kindOf x = some .local →
    bindL kindOf (P.zip vs) m x = some v
  | [], _, _, _, _, h, _, _ => by simp at h
  | _ :: _, [], _, _, _, _, h, _ => by simp at h
  | p :: P, w :: vs, 0, m, nd, h1, h2, hk => by
    simp at h1 h2; subst h1; subst h2
    show bindL kindOf ((p, w) :: P.zip vs) m p = _
    unfold bindL
    rw [bindL_out fun v hv => (List.nodup_cons.mp nd).1 (List.of_mem_zip hv).1, if_pos hk]
    simp
  | p :: P, w :: vs, i + 1, m, nd, h1, h2, hk => by
    show bindL kindOf ((p, w) :: P.zip vs) m x = _
    unfold bindL
    exact bindL_get (i := i) (List.nodup_cons.mp nd).2 (by simpa using h1) (by simpa using h2) hk
theorem bindC_get {kindOf : Str → Option NameKind} {x : Str} {v : Value} : ∀ {P : List Str} {vs : List Value} {i : Nat} {m : Str → Option Value}, P.Nodup → P[i]? = some x → vs[i]? = some v → kindOf x ≠ some .local →
    bindC kindOf (P.zip vs) m x = some v
  | [], _, _, _, _, h, _, _ => by simp at h
  | _ :: _, [], _, _, _, _, h, _ => by simp at h
  | p :: P, w :: vs, 0, m, nd, h1, h2, hk => by
    simp at h1 h2; subst h1; subst h2
    show bindC kindOf ((p, w) :: P.zip vs) m p = _
    unfold bindC
    rw [bindC_out fun v hv => (List.nodup_cons.mp nd).1 (List.of_mem_zip hv).1, if_neg hk]
    simp
  | p :: P, w :: vs, i + 1, m, nd, h1, h2, hk => by
    show bindC kindOf ((p, w) :: P.zip vs) m x = _
    unfold bindC
    exact bindC_get (i := i) (List.nodup_cons.mp nd).2 (by simpa using h1) (by simpa using h2) hk

/-- the names' values at the entry -/
def start (N : List Str) (vs : List V) : St := vs.map some ++ List.replicate (N.length - vs.length) none

/-- the context of a def's body, at its entry; an exception leaves the frame, then lies as CX says -/
def cxOf (CX : CXT) (P : Program) (w : World) (K : PySem.W.Frag) (mg : Str → Option Value) (base : Heap) (N : List Str) (qual : Str) (scope : Scope) (f : Addr) (cd : Value) (A : Around) (outer : List Env) (s : Shared) (H : Hp) (E : XK) : Cx where
  prog := P
  w := w
  K := K
  mg := mg
  base := base
  A := A.deeper (envOfC qual scope s.heap.objs.size f cd)
  N := N
  s₀ := s
  H₀ := H
  env := envOfC qual scope s.heap.objs.size f cd
  outer := outer
  stack := envOfC qual scope s.heap.objs.size f cd :: outer
  ex := []
  calm := true
  fn := fun _ => true
  pn := []
  xe := fun e s' => wpAny (model P w) (A.deeper (envOfC qual scope s.heap.objs.size f cd)) (leaving (envOfC qual scope s.heap.objs.size f cd) e) (fun _ s'' => CX outer H s E e s'') (fun e' s'' => CX outer H s E e' s'') s'

theorem cell_has {sc : Scope} {n : Nat} {x : Str} (h : sc.names.lookup x = some .cell) : ∃ c, (cellsFrom n sc.names []).lookup x = some c := by
  have q := PySem.W.cellsFrom_some sc.names n [] (.inl h)
  exact Option.isSome_iff_exists.mp q

theorem inv_start {CX : CXT} {P : Program} {w : World} {K : PySem.W.Frag} {mg : Str → Option Value} {base : Heap} {N ps : List Str} {qual : Str} {scope : Scope} {f : Addr} {cd : Value} {A : Around} {outer : List Env} {s s1 : Shared} {H : Hp} {E : XK} {us : List Value} {vs : List V}
    (S : FnScope N ps scope) (hd : A.handled = none) (e0 : Env0 P w K mg base A outer s H) (hl : vs.length = ps.length) (r : Vals vs us)
    (x : InCallC s s.heap.objs.size (bindL (envOfC qual scope s.heap.objs.size f cd).kindOf (ps.zip us) fun _ => none) (cellsFrom (s.heap.objs.size + 1) scope.names []) (bindC (envOfC qual scope s.heap.objs.size f cd).kindOf (ps.zip us) fun _ => none) s1) :
    Inv (cxOf CX P w K mg base N qual scope f cd A outer s H E) [] (start N vs) H s1 := by
  have hpl : ps.length ≤ N.length := by have := congrArg List.length S.pre; rw [List.length_take] at this; omega
  obtain ⟨h1, tk, rfl, hk⟩ := x.done
  have noA : ∀ b : Addr, b ∉ (cxOf CX P w K mg base N qual scope f cd A outer s H E).ex := fun b z => absurd (show b ∈ ([] : List Addr) from z) (by simp)
  refine ⟨⟨e0.mod, S.kind, rfl, rfl, Nat.le_refl _, fun y z c h1 h2 => ?_, fun y hy => ?_, fun y c _ h => ?_, fun _ => hd, Around.frames_deeper e0.frames, .inr ⟨rfl, rfl⟩, fun b z => absurd z (noA b), e0.bs, e0.bsz, fun b _ _ => noA b, fun b z => absurd z (noA b), e0.funs, e0.frf⟩,
    rfl, e0.bare, Un.kept hk, ⟨_, x.toInCall.ns, fun i y v h1 h2 h3 => ?_⟩, fun y c h => ⟨_, x.cell y c h⟩, e0.hok.fresh (Nat.le_refl _), fun y c h => ?_, fun p hp => absurd (show p ∈ ([] : List (Addr × Obj)) from hp) (by simp), e0.hok.kept hk, ?_⟩
  · exact name_of_addr x.apart (PySem.mem_of_lookup h1) (PySem.mem_of_lookup h2)
  · have hy : scope.names.lookup y = some .cell ∨ scope.names.lookup y = some .free := hy
    rcases hy with hy | hy
    · exact cell_has hy
    · exact absurd rfl (S.nofree _ (PySem.mem_of_lookup hy))
  · exact Nat.le_of_lt (x.above y c (PySem.mem_of_lookup h))
  · have hi : i < vs.length := by
      unfold start at h2
      by_cases hi : i < vs.length
      · exact hi
      · rw [List.getElem?_append_right (by simpa using hi)] at h2
        rw [List.getElem?_replicate] at h2
        split at h2 <;> cases h2
    have ha : vs[i]? = some v := by
      unfold start at h2
      rw [List.getElem?_append_left (by simpa using hi), List.getElem?_map] at h2
      cases e : vs[i]? with
      | none => rw [e] at h2; cases h2
      | some a => rw [e] at h2; cases h2; rfl
    obtain ⟨u, hu, rv⟩ := r.get ha
    have hp : ps[i]? = some y := by
      rw [← S.pre, List.getElem?_take_of_lt (by omega)]; exact h1
    have ndP : ps.Nodup := by rw [← S.pre]; exact S.nd.sublist (List.take_sublist _ _)
    refine ⟨u, rv, ?_⟩
    rcases S.par y (List.mem_of_getElem? hp) with k | k
    · exact .inl ⟨k, bindL_get ndP hp hu k⟩
    · obtain ⟨c, e⟩ := cell_has (n := s.heap.objs.size + 1) k
      refine .inr ⟨.inl k, c, e, ?_⟩
      have q := x.cell y c e
      rw [bindC_get ndP hp hu (by show scope.names.lookup y ≠ _; rw [k]; decide)] at q
      exact q
  · exact e0.hok.fresh (Nat.le_of_lt (x.above y c (PySem.mem_of_lookup h)))
  · unfold start
    show _ = N.length
    rw [List.length_append, List.length_map, List.length_replicate]
    omega

/-- THE RULE: a def (or a method) of the text, by its body. The body's reading t is chosen for each entry; it is run at the parameters' values -/
theorem fn_of {CX : CXT} {P : Program} {w : World} {K : PySem.W.Frag} {mg : Str → Option Value} {base : Heap} {k : Nat} {f : Addr} {name qual : Str} {params : Arguments} {body : List Stmt} {scope : Scope} {dV kV doc pm cdv ct oc : Value} {an od : Option Addr}
    {osl : Array (Option Value)} {N ps : List Str} {sp : Sp} (lk : K.lookup f = some ⟨oc, od, .func (PySem.W.fnOf name qual params body scope dV kV doc pm an cdv ct), osl⟩) (hcd : PySem.W.codeIn K cdv qual = true) (S : FnScope N ps scope)
    (len : ∀ vs H Q E, sp vs H Q E → vs.length = ps.length)
    (hbody : ∀ (A : Around) (outer : List Env) (s : Shared) (H : Hp) (vs : List V) (Q : VK) (E : XK), Room k (A.deeper (envOfC qual scope s.heap.objs.size f cdv)) → sp vs H Q E →
      ∃ t, PSs (cxOf CX P w K mg base N qual scope f cdv A outer s H E) body t ∧ t { nx := fun _ H' => Q .non H', rt := Q } (start N vs) H) :
    FnOk P w K mg base CX (k + 1) f (PySem.W.fnOf name qual params body scope dV kV doc pm an cdv ct) ps sp := by
  refine ⟨len, fun A outer s H args us vs Q E hr e0 hb r hsp => ?_⟩
  have hl := len _ _ _ _ hsp
  have KX : K.In s.heap := e0.mod.kin.keeps fun b o e => (e0.bs b o e).1
  have lim : s.heap.NoLimit := e0.mod.nolimit.keeps fun b o e => (e0.bs b o e).1
  have hkind : ∀ y ∈ ps.zip us, scope.names.lookup y.1 = some .local ∨ (scope.names.lookup y.1 = some .cell ∧ ((cellsFrom (s.heap.objs.size + 1) scope.names []).lookup y.1).isSome = true) := fun ⟨n, v⟩ hy => by
    rcases S.par n (List.of_mem_zip hy).1 with q | q
    · exact .inl q
    · exact .inr ⟨q, PySem.W.cellsFrom_some _ _ _ (.inl q)⟩
  refine codeAny_call_function hr.depth (KX _ _ lk) rfl S.co S.gen rfl (PySem.W.codeRec_of KX hcd) (hb _ _ _ _ ?_)
  refine wpAny_newFunctionEnv_cells S.kind hkind fun env he s1 x => ?_
  subst he
  refine ⟨lim.keeps x.toInCall.keep, codeAny_func ?_⟩
  obtain ⟨t, ht, hq⟩ := hbody A outer s H vs Q E (hr.deeper _) hsp
  have I : Inv (cxOf CX P w K mg base N qual scope f cdv A outer s H E) [] (start N vs) H s1 := inv_start S hr.hd e0 hl r x
  refine wpAny_mono (ht [] s1 (start N vs) H _ I hq) (fun fl s' hs => ?_) fun e s' hs => hs
  have fin : ∀ {σ' : St} {H' : Hp} {v : V} {u : Value}, Inv (cxOf CX P w K mg base N qual scope f cdv A outer s H E) [] σ' H' s' → RelV v u → Q v H' → CE outer P w H s Q u s' :=
    fun {σ' H' v u} J rv q => ⟨v, H', J.os, J.bare, J.base, J.hok, rv, q⟩
  cases fl with
  | ret u =>
    obtain ⟨v, σ', H', J, rv, q⟩ := hs
    exact fin J rv q
  | next =>
    obtain ⟨σ', H', J, q⟩ := hs
    exact fin (v := V.non) (u := Value.none) J rfl q
  | brk =>
    obtain ⟨_, _, _, q⟩ := hs
    exact False.elim q
  | cont =>
    obtain ⟨_, _, _, q⟩ := hs
    exact False.elim q
end L2

namespace L2
open PySem PySem.Spec PyProof.Rows
section
variable {X : Cx} {x : Str} {p pos : Pos} {e : Expr} {es : List Expr} {t : TA} {id T : String} {r : List V → Hp → VK → Prop}

def tCB (r : List V → Hp → VK → Prop) (t : TA) : TE := fun σ H Q => t σ H fun vs H1 => r vs H1 Q
/-- f(e, ..), f a built-in function -/
theorem pe_callB (hc : CallR X (.builtin id) r) (hg : Gl X x) (hm : X.mg x = none) (hv : bootBuiltins x = some (.builtin id)) (ha : PA X (e :: es) t) (hn : x ≠ "__name__" := by decide) (hdb : (x == ("__debug__" : Str)) = false := by decide)
    (he : starEach (e :: es) X.env = (false, eval e X.env) :: starEach es X.env := by rfl) (hpl : (backTo pos (starEach es X.env)).any (·.1) = false := by rfl) : PE X (.Call (.Name x p) (e :: es) [] pos) (tCB r t) := by
  intro pins s σ H Q I h
  refine wpAny_Call_Name_kw (ld_blt I hg hm hv ?_ hn hdb)
  exact PyProof.Rows.callWith_builtin1 (thn (ha pos pins s σ H _ I h) fun us s1 ⟨vs, H1, I1, r1, q1⟩ => hc pins s1 σ H1 vs us Q I1 r1 q1) he hpl
end
end L2

namespace HT
open PySem PyProof.Rows

section
open PySem.SeqAt
open PySem.AutoSeq1 (wpAny_loadPart')
open PySem.MeetsSeq PySem.MeetsSeq2 PySem.MeetsSeq3

end

section
variable {prog : Program} {w : World} {A : Around} {E : Value → Shared → Prop} {s : Shared}

/-- t + u, t not empty -/
theorem cat_tup {t b : Addr} {vs ws : List Value} {Q : Value → Shared → Prop} (ht : IsTup s.heap t vs.toArray) (hb : IsTup s.heap b ws.toArray) (hv : vs ≠ [])
    (h1 : ws = [] → Q (.ref t) s) (h2 : ws ≠ [] → Q (.ref s.heap.objs.size) { s with heap := s.heap.push { cls := .type "tuple", data := .seq (vs ++ ws).toArray } })
    (hsz : vs.length + ws.length ≤ sizeLine) : wpAny (model prog w) A (binaryOp .Add (.ref t) (.ref b)) Q E s := by
  obtain ⟨⟨cls, dd, data, sl⟩, ho, hc, n, hd⟩ := id ht
  obtain ⟨⟨cls2, dd2, data2, sl2⟩, ho2, hc2, n2, hd2⟩ := id hb
  simp only at hc hd hc2 hd2
  subst hc hd hc2 hd2
  have e : vs.toArray ++ ws.toArray = (vs ++ ws).toArray := by simp
  by_cases hw : ws = []
  · exact concat_meets ⟨_, ho, rfl⟩ ⟨_, ho2, rfl⟩ noFill_tuple_add seq_tuple_add PySem.F.slot_tuple_add PySem.F.entry_tuple_add (PySem.F.args_tuple_add_2 _ _)
      (tuple_addW1 t b vs.toArray ws.toArray n n2 dd dd2 sl sl2 (by simpa using hv) (by simp [hw])) ⟨ho, ho2, h1 hw⟩
  · refine concat_meets ⟨_, ho, rfl⟩ ⟨_, ho2, rfl⟩ noFill_tuple_add seq_tuple_add PySem.F.slot_tuple_add PySem.F.entry_tuple_add (PySem.F.args_tuple_add_2 _ _)
      (tuple_addW2 t b vs.toArray ws.toArray n n2 dd dd2 sl sl2 (by simpa using hv) (by simpa using hw) (by rw [List.size_toArray, List.size_toArray]; exact hsz)) ⟨ho, ho2, ?_⟩
    rw [e]
    exact h2 hw

/-- a slice's bound as a place among n (d where it is left out) -/
def sIx (n d : Nat) : Option Int → Nat
  | none => d
  | some v => if v < 0 then (v + (n : Int)).toNat else min v.toNat n
theorem sIx_none (n d : Nat) : sIx n d none = d := rfl
theorem sIx_nat (n d k : Nat) : sIx n d (some (k : Int)) = min k n := by
  show (if (k : Int) < 0 then ((k : Int) + (n : Int)).toNat else min (k : Int).toNat n) = min k n
  rw [if_neg (by omega), Int.toNat_natCast]
theorem sIx_le (n d : Nat) (hd : d ≤ n) (o : Option Int) : sIx n d o ≤ n := by
  cases o with
  | none => exact hd
  | some v =>
    show (if v < 0 then (v + (n : Int)).toNat else min v.toNat n) ≤ n
    by_cases hv : v < 0
    · rw [if_pos hv]; omega
    · rw [if_neg hv]; exact Nat.min_le_right _ _
theorem clip_eq (v : Int) (n d : Nat) : (if v < 0 then max (v + (n : Int)) 0 else min v (n : Int)) = ((sIx n d (some v) : Nat) : Int) := by
  show (if v < 0 then max (v + (n : Int)) 0 else min v (n : Int)) = (((if v < 0 then (v + (n : Int)).toNat else min v.toNat n) : Nat) : Int)
  by_cases hv : v < 0
  · simp only [if_pos hv]; omega
  · simp only [if_neg hv]; omega
theorem adjust_gen (lo hi : Option Int) (n : Nat) : Builtin.Slice.sliceAdjust lo hi 1 (n : Int) = (((sIx n 0 lo : Nat) : Int), ((sIx n n hi : Nat) : Int)) := by
  have h1 : ¬ ((1 : Int) < 0) := by omega
  unfold Builtin.Slice.sliceAdjust
  simp only [h1, if_false]
  refine Prod.ext ?_ ?_
  · cases lo with
    | none => rfl
    | some v => exact clip_eq v n 0
  · cases hi with
    | none => rfl
    | some v => exact clip_eq v n n
theorem places_gen (i j : Nat) : Builtin.Slice.slicePlaces (i : Int) (j : Int) 1 = j - i := by
  unfold Builtin.Slice.slicePlaces
  have h1 : (1 : Int) > 0 := by omega
  simp only [h1, if_true, Int.ediv_one]
  split <;> omega
theorem slicePart_ {v : Value} {o : Option Int} {Q : Option Int → Shared → Prop} (p : IsPart v o) (h : Q o s) : wpAny (model prog w) A (Builtin.Slice.slicePartIndex v) Q E s := by
  cases p with
  | none => exact slicePart_none h
  | int i t => exact slicePart_int h
theorem sliceApplied_gen {sl : Addr} {vl vu : Value} {lo hi : Option Int} {n : Nat} {Q : Int × Int × Nat → Shared → Prop} (hs : s.heap.IsSliceOf sl vl vu .none) (pl : IsPart vl lo) (pu : IsPart vu hi)
    (h : Q (((sIx n 0 lo : Nat) : Int), 1, sIx n n hi - sIx n 0 lo) s) : wpAny (model prog w) A (Builtin.Slice.sliceApplied (.ref sl) (pure (n : Int))) Q E s := by
  obtain ⟨os, hos, hcs, hds⟩ := id hs
  unfold Builtin.Slice.sliceApplied Builtin.Slice.sliceFields
  refine wpAny_bind (wpAny_bind (wpAny_field hos hds (x := vl) rfl (wpAny_bind (wpAny_field hos hds (x := vu) rfl (wpAny_bind (wpAny_field hos hds (x := .none) rfl (wpAny_pure ?_)))))))
  refine wpAny_bind (slicePart_none ?_)
  show wpAny _ _ (if ((1 : Int) == 0) = true then _ else _) _ _ s
  rw [if_neg (by decide)]
  refine wpAny_bind (slicePart_ pl (wpAny_bind (slicePart_ pu (wpAny_bind (wpAny_pure ?_)))))
  show wpAny _ _ (match Builtin.Slice.sliceAdjust lo hi 1 (n : Int) with | (lo, hi) => pure (lo, (1 : Int), Builtin.Slice.slicePlaces lo hi 1)) _ _ s
  rw [adjust_gen lo hi n]
  show wpAny _ _ (pure (((sIx n 0 lo : Nat) : Int), (1 : Int), Builtin.Slice.slicePlaces ((sIx n 0 lo : Nat) : Int) ((sIx n n hi : Nat) : Int) 1)) _ _ s
  rw [places_gen]
  exact wpAny_pure h
theorem pick_gen (xs : Array Value) (i k : Nat) : ((List.range k).filterMap fun (m : Nat) => xs[((i : Int) + (m : Int) * 1).toNat]?).toArray = ((xs.toList.drop i).take k).toArray := by
  have e : (fun (m : Nat) => xs[((i : Int) + (m : Int) * 1).toNat]?) = fun m => xs[i + m]? := by
    funext m
    have : ((i : Int) + (m : Int) * 1).toNat = i + m := by omega
    rw [this]
  rw [e]
  have := pick_run xs i k
  rw [List.filterMap_map] at this
  have e2 : ((fun x => xs[x]?) ∘ fun x => i + x) = fun m => xs[i + m]? := rfl
  rw [e2] at this
  rw [this]

theorem getItem_tuple_cut {t sl : Addr} {items : Array Value} {vl vu : Value} {lo hi : Option Int} {Q : Value → Shared → Prop} (ht : IsTup s.heap t items) (hs : s.heap.IsSliceOf sl vl vu .none) (pl : IsPart vl lo) (pu : IsPart vu hi)
    (hw : ¬ (sIx items.size 0 lo = 0 ∧ sIx items.size items.size hi = items.size))
    (h : Q (.ref s.heap.objs.size) { s with heap := s.heap.push { cls := .type "tuple", data := .seq ((items.toList.drop (sIx items.size 0 lo)).take (sIx items.size items.size hi - sIx items.size 0 lo)).toArray } })
    (hsz : items.size ≤ sizeLine) : wpAny (model prog w) A (getItem (.ref t) (.ref sl)) Q E s := by
  have htake : sizeOk (.seq ((items.toList.drop (sIx items.size 0 lo)).take (sIx items.size items.size hi - sIx items.size 0 lo)).toArray) := by
    show ((items.toList.drop (sIx items.size 0 lo)).take (sIx items.size items.size hi - sIx items.size 0 lo)).toArray.size ≤ sizeLine
    rw [List.size_toArray, List.length_take, List.length_drop, Array.length_toList]
    omega
  have hj : sIx items.size items.size hi ≤ items.size := sIx_le _ _ (Nat.le_refl _) hi
  obtain ⟨os, hos, hcs, hds⟩ := id hs
  have hTs : s.TypeIs (.ref sl) "slice" := ⟨os, hos, hcs⟩
  unfold getItem
  try with_reducible refine wpAny_holding ?_
  first | refine wpAny_bind (wpAny_pure ?_) | skip
  refine wpAny_bind (wpAny_sequenceKey ht.typeIs (by decide) ?_)
  refine wpAny_bind (wpAny_callSpecial?_slot (name := Str.ofString "__getitem__") ht.typeIs PyProof.Rows.slot_tuple_getitem
    (wpAny_call_entry PyProof.Rows.slot_tuple_getitem ht.typeIs entry_tuple_getitem ?_ (args_tuple_getitem _ _)))
  show wpAny _ _ (Builtin.Tuple.tupleItemsOf (.ref t) >>= _) _ _ s
  refine wpAny_bind (tupleItemsOf_ ht ?_)
  refine wpAny_bind (wpAny_typeOf hTs ?_)
  rw [if_pos (by decide)]
  refine wpAny_bind (sliceApplied_gen hs pl pu ?_)
  have hno : ¬ ((((sIx items.size 0 lo : Nat) : Int) == 0 && (1 : Int) == 1 && (sIx items.size items.size hi - sIx items.size 0 lo) == items.size) = true) := by
    intro q
    rw [Bool.and_eq_true, Bool.and_eq_true] at q
    have q1 : ((sIx items.size 0 lo : Nat) : Int) = 0 := eq_of_beq q.1.1
    have q2 : sIx items.size items.size hi - sIx items.size 0 lo = items.size := eq_of_beq q.2
    exact hw ⟨by omega, by omega⟩
  show wpAny _ _ (if (((sIx items.size 0 lo : Nat) : Int) == 0 && (1 : Int) == 1 && (sIx items.size items.size hi - sIx items.size 0 lo) == items.size) = true then _ else _) _ _ s
  rw [if_neg hno, pick_gen]
  first
    | exact wpAny_bind (m := Builtin.Tuple.tupleExact _) (wpAny_newObj_type (wpAny_pure ⟨_, rfl, wpAny_pure h⟩) htake)
    | exact wpAny_bind (m := Builtin.Tuple.tupleExact _) (wpAny_newObj_type (wpAny_bind (wpAny_pure (wpAny_pure ⟨_, rfl, wpAny_pure h⟩))) htake)
    | exact wpAny_bind (wpAny_bind (m := Builtin.Tuple.tupleExact _) (wpAny_newObj_type (wpAny_pure (wpAny_pure ⟨_, rfl, wpAny_pure h⟩)) htake))
    | exact wpAny_bind (wpAny_bind (m := Builtin.Tuple.tupleExact _) (wpAny_newObj_type (wpAny_pure ⟨_, rfl, wpAny_pure h⟩) htake))
end
end HT

namespace L2
open PySem PySem.Spec PyProof.Rows

abbrev TO := St → Hp → (Option Int → Hp → Prop) → Prop
/-- a slice's part (left out, or an int) -/
def PO (X : Cx) (e : Option Expr) (t : TO) : Prop :=
  ∀ (pins : List (Addr × Obj)) (s : Shared) (σ : St) (H : Hp) (Q : Option Int → Hp → Prop), Inv X pins σ H s → t σ H Q →
    wpAny (model X.prog X.w) X.A (evalPart e X.env) (fun u s' => ∃ o H', Inv X pins σ H' s' ∧ IsPart u o ∧ Q o H') X.xe s
def tNoPart : TO := fun _ H Q => Q none H
def tPart (t : TE) : TO := fun σ H Q => t σ H fun x H1 => ∃ i, x = .int i ∧ Q (some i) H1

section
variable {X : Cx} {e : Expr} {te : TE} {lo hi : Option Expr} {tl th : TO} {pos p2 : Pos}

theorem po_none : PO X none tNoPart := by
  intro pins s σ H Q I h
  rw [evalPart_none]
  exact wpAny_pure ⟨none, H, I, .none, h⟩
theorem po_some (h : PE X e te) : PO X (some e) (tPart te) := by
  intro pins s σ H Q I hw
  rw [evalPart_some]
  refine thn (h pins s σ H _ I hw) fun u s1 ⟨x, H1, I1, r1, q1⟩ => ?_
  obtain ⟨i, rfl, q⟩ := q1
  obtain ⟨t, rfl⟩ := r1
  exact ⟨some i, H1, I1, .int i t, q⟩

/-- what a slice of a value is, by values: the slice object stands at sl -/
def SlR (X : Cx) (r : V → Option Int → Option Int → Hp → VK → Prop) : Prop :=
  ∀ (pins : List (Addr × Obj)) (s : Shared) (σ : St) (H : Hp) (x : V) (v vl vu : Value) (lo hi : Option Int) (sl : Addr) (Q : VK), Inv X pins σ H s → RelV x v → s.heap.IsSliceOf sl vl vu .none → IsPart vl lo → IsPart vu hi → r x lo hi H Q →
    ∃ T id, typeLookup (.type T) "__getitem__" = pure (some (.builtin id)) ∧ s.TypeIs v T ∧ wpAny (model X.prog X.w) X.A (getItem v (.ref sl)) (EP X pins σ Q) X.xe s
theorem SlR.or {r r' : V → Option Int → Option Int → Hp → VK → Prop} (h : SlR X r) (h' : SlR X r') : SlR X (fun x lo hi H Q => r x lo hi H Q ∨ r' x lo hi H Q) := by
  intro pins s σ H x v vl vu lo hi sl Q I rx hs pl pu q
  rcases q with q | q
  · exact h pins s σ H x v vl vu lo hi sl Q I rx hs pl pu q
  · exact h' pins s σ H x v vl vu lo hi sl Q I rx hs pl pu q
def tSl (r : V → Option Int → Option Int → Hp → VK → Prop) (te : TE) (tl th : TO) : TE := fun σ H Q => te σ H fun x H1 => tl σ H1 fun l H2 => th σ H2 fun u H3 => r x l u H3 Q
/-- a[lo:hi], any a -/
theorem pe_slice {r : V → Option Int → Option Int → Hp → VK → Prop} (hr : SlR X r) (he : PE X e te) (hl : PO X lo tl) (hu : PO X hi th) : PE X (.Subscript e (.Slice lo hi none p2) pos) (tSl r te tl th) := by
  intro pins s σ H Q I h
  refine Subscript_ (thn (he pins s σ H _ I h) fun v s1 ⟨x, H1, I1, r1, q1⟩ => ?_)
  refine wpAny_Slice (thn (hl pins s1 σ H1 _ I1 q1) fun vl s2 ⟨l, H2, I2, pl, q2⟩ => thn (hu pins s2 σ H2 _ I2 q2) fun vu s3 ⟨u, H3, I3, pu, q3⟩ => ?_)
  rw [evalPart_none]
  refine wpAny_pure ?_
  have I4 : Inv X pins σ H3 { s3 with heap := s3.heap.push { cls := .type "slice", data := .fields #[vl, vu, .none] } } := I3.kept (t' := s3.toks) fun b ob q => Heap.get?_push_of_some _ q
  obtain ⟨T, id, hT, ht, hg⟩ := hr pins { s3 with heap := s3.heap.push { cls := .type "slice", data := .fields #[vl, vu, .none] } } σ H3 x v vl vu l u s3.heap.objs.size Q I4 r1 (Heap.IsSliceOf.new ..) pl pu q3
  show wpAny (model X.prog X.w) X.A (subscriptTail e (.Slice lo hi none p2) v (.ref s3.heap.objs.size)) (EP X pins σ Q) X.xe { s3 with heap := s3.heap.push { cls := .type "slice", data := .fields #[vl, vu, .none] } }
  exact tail_any (ops := [.ref s3.heap.objs.size, v]) ht hT hg (by with_unfolding_all rfl)

/-- the items of xs[lo:hi] -/
def cutV (xs : List V) (lo hi : Option Int) : List V := (xs.drop (HT.sIx xs.length 0 lo)).take (HT.sIx xs.length xs.length hi - HT.sIx xs.length 0 lo)
theorem cutV_length (xs : List V) (lo hi : Option Int) : (cutV xs lo hi).length ≤ xs.length := by
  unfold cutV
  rw [List.length_take, List.length_drop]
  omega
/-- t[lo:hi], not the whole of it (the whole would be t itself) -/
def rSlT (K : PySem.W.Frag) : V → Option Int → Option Int → Hp → VK → Prop := fun x lo hi H Q => ∃ a xs, x = .ref a ∧ SqT K H a xs ∧
  ¬ (HT.sIx xs.length 0 lo = 0 ∧ HT.sIx xs.length xs.length hi = xs.length) ∧ ∀ p, H p = none → Q (.ref p) (upd H p (.tup (cutV xs lo hi)))
theorem sl_tup : SlR X (rSlT X.K) := by
  intro pins s σ H x v vl vu lo hi sl Q I rx hs pl pu h
  obtain ⟨a, xs, rfl, hx, hw, q⟩ := h
  cases rx
  obtain ⟨its, r, ht, hz⟩ := I.tuple hx
  have hlen : its.toArray.size = xs.length := by rw [List.size_toArray]; exact r.length.symm
  refine ⟨"tuple", _, PyProof.Rows.slot_tuple_getitem.lookup, ht.typeIs, ?_⟩
  refine HT.getItem_tuple_cut ht hs pl pu (by rw [hlen]; exact hw) ?_ (by rw [hlen]; exact hz)
  rw [hlen]
  refine ⟨.ref s.heap.objs.size, _, I.laid (t' := s.toks) (o := .tup (cutV xs lo hi)) (fun b ob q => Heap.get?_push_of_some _ q) (Nat.le_refl _) ?_, rfl, q _ (I.hok.fresh (Nat.le_refl _))⟩
  exact ⟨Nat.le_trans (cutV_length xs lo hi) hz, _, (r.drop (HT.sIx xs.length 0 lo)).take (HT.sIx xs.length xs.length hi - HT.sIx xs.length 0 lo), IsTup.new _ _⟩

/-- t + u, t not empty: u empty gives t itself -/
def rCatT (K : PySem.W.Frag) : R2 := fun x y H Q => ∃ a b xs ys, x = .ref a ∧ y = .ref b ∧ SqT K H a xs ∧ SqT K H b ys ∧ xs ≠ [] ∧ xs.length + ys.length ≤ sizeLine ∧
  (ys = [] → Q (.ref a) H) ∧ (ys ≠ [] → ∀ p, H p = none → Q (.ref p) (upd H p (.tup (xs ++ ys))))
theorem Vals.nil_iff {xs : List V} {us : List Value} (r : Vals xs us) : us = [] ↔ xs = [] := by
  cases r with
  | nil => simp
  | cons _ _ => simp
theorem op_catT : OpR X (binaryOp .Add) (rCatT X.K) := by
  intro pins s σ H x y v u Q I rx ry h
  obtain ⟨a, b, xs, ys, rfl, rfl, ha, hb, hx, hz, q1, q2⟩ := h
  cases rx
  cases ry
  obtain ⟨its, r1, p1, _⟩ := I.tuple ha
  obtain ⟨its2, r2, p2, _⟩ := I.tuple hb
  refine HT.cat_tup p1 p2 (fun z => hx (r1.nil_iff.mp z)) (fun z => ⟨.ref a, H, I, rfl, q1 (r2.nil_iff.mp z)⟩) (fun z => ?_) (by rw [← r1.length, ← r2.length]; exact hz)
  refine ⟨.ref s.heap.objs.size, _, I.laid (t' := s.toks) (o := .tup (xs ++ ys)) (fun b ob q => Heap.get?_push_of_some _ q) (Nat.le_refl _) ?_, rfl, q2 (fun w => z (r2.nil_iff.mpr w)) _ (I.hok.fresh (Nat.le_refl _))⟩
  exact ⟨by rw [List.length_append]; exact hz, _, r1.append r2, IsTup.new _ _⟩
end
end L2

namespace L2
open PySem PySem.Spec PyProof.Rows

/-- the place that an index of any sign means -/
def ixN (n : Nat) (i : Int) : Option Nat := if 0 ≤ i then (if i < n then some i.toNat else none) else if -(n : Int) ≤ i then some (i + n).toNat else none
def atI {α : Type} (xs : List α) (i : Int) : Option α := (ixN xs.length i).bind fun j => xs[j]?
theorem ixN_seq {n : Nat} {i : Int} {j : Nat} (h : ixN n i = some j) : seqIndex? i n = some j ∧ j < n ∧ -(n : Int) ≤ i ∧ i < n := by
  unfold ixN at h
  by_cases h0 : 0 ≤ i
  · rw [if_pos h0] at h
    by_cases h1 : i < n
    · rw [if_pos h1] at h
      have e : i.toNat = j := Option.some.inj h
      exact ⟨by rw [seqIndex_of h0 h1, e], by omega, by omega, h1⟩
    · rw [if_neg h1] at h; cases h
  · rw [if_neg h0] at h
    by_cases h1 : -(n : Int) ≤ i
    · rw [if_pos h1] at h
      have e : (i + n).toNat = j := Option.some.inj h
      exact ⟨by rw [seqIndex_neg (by omega) h1, e], by omega, h1, by omega⟩
    · rw [if_neg h1] at h; cases h
theorem atI_get {α : Type} {xs : List α} {i : Int} {v : α} (h : atI xs i = some v) : ∃ j, seqIndex? i xs.length = some j ∧ xs[j]? = some v ∧ j < xs.length ∧ -(xs.length : Int) ≤ i ∧ i < xs.length := by
  unfold atI at h
  cases e : ixN xs.length i with
  | none => rw [e] at h; cases h
  | some j =>
    rw [e] at h
    obtain ⟨h1, h2, h3, h4⟩ := ixN_seq e
    exact ⟨j, h1, h, h2, h3, h4⟩
/-- what stands as an index of a plain subscript -/
def PlainIx (b : Expr) : Prop := ∀ o i, subscripted b false o i = operate [o, i] (getItem o i)
/-- a subscript by values -/
def IxR (X : Cx) (r : R2) : Prop :=
  ∀ (value slice : Expr) (pins : List (Addr × Obj)) (s : Shared) (σ : St) (H : Hp) (x y : V) (v u : Value) (Q : VK), Inv X pins σ H s → RelV x v → RelV y u → r x y H Q →
    subscripted slice false v u = operate [v, u] (getItem v u) → wpAny (model X.prog X.w) X.A (subscriptTail value slice v u) (EP X pins σ Q) X.xe s
/-- a call of a builtin's method by values: the receiver, the arguments -/
def MtR (X : Cx) (id : String) (r : V → List V → Hp → VK → Prop) : Prop :=
  ∀ (pins : List (Addr × Obj)) (s : Shared) (σ : St) (H : Hp) (x : V) (xs : List V) (v : Value) (us : List Value) (Q : VK), Inv X pins σ H s → RelV x v → Vals xs us → r x xs H Q →
    wpAny (model X.prog X.w) X.A (call (.builtin id) (v :: us)) (EP X pins σ Q) X.xe s
section
variable {X : Cx} {a b : Expr} {ta tb : TE} {pos : Pos}
theorem IxR.or {r r' : R2} (h : IxR X r) (h' : IxR X r') : IxR X (fun x y H Q => r x y H Q ∨ r' x y H Q) := by
  intro value slice pins s σ H x y v u Q I rx ry q hs
  rcases q with q | q
  · exact h value slice pins s σ H x y v u Q I rx ry q hs
  · exact h' value slice pins s σ H x y v u Q I rx ry q hs
theorem MtR.or {id : String} {r r' : V → List V → Hp → VK → Prop} (h : MtR X id r) (h' : MtR X id r') : MtR X id (fun x xs H Q => r x xs H Q ∨ r' x xs H Q) := by
  intro pins s σ H x xs v us Q I rx rs q
  rcases q with q | q
  · exact h pins s σ H x xs v us Q I rx rs q
  · exact h' pins s σ H x xs v us Q I rx rs q
/-- a[b] -/
theorem pe_ix {r : R2} (hr : IxR X r) (ha : PE X a ta) (hb : PE X b tb) (hs : PlainIx b) : PE X (.Subscript a b pos) (tOp r ta tb) := by
  intro pins s σ H Q I h
  exact Subscript_ (binT ha hb I h fun v u s2 x y H2 I2 rx ry q => hr a b pins s2 σ H2 x y v u Q I2 rx ry q (hs _ _))

def rIxL (K : PySem.W.Frag) : R2 := fun x y H Q => ∃ p xs i v, x = .ref p ∧ y = .int i ∧ SqL K H p xs ∧ atI xs i = some v ∧ Q v H
def rIxT (K : PySem.W.Frag) : R2 := fun x y H Q => ∃ p xs i v, x = .ref p ∧ y = .int i ∧ SqT K H p xs ∧ atI xs i = some v ∧ Q v H
def rIxS : R2 := fun x y H Q => ∃ z i c, x = .str z ∧ y = .int i ∧ z.length ≤ sizeLine ∧ atI z.cps.toList i = some c ∧ Q (.str ⟨#[c]⟩) H
theorem ix_list : IxR X (rIxL X.K) := by
  intro value slice pins s σ H x y v u Q I rx ry h hs
  obtain ⟨p, xs, i, z, rfl, rfl, hq, he, q⟩ := h
  cases rx
  obtain ⟨t, rfl⟩ := ry
  obtain ⟨its, r, pl, hz⟩ := I.list hq
  obtain ⟨j, h1, h2, h3, h4, h5⟩ := atI_get he
  obtain ⟨w, ew, rw'⟩ := r.get h2
  have hl := r.length
  have hn := line63
  have fin : EP X pins σ Q w s := ⟨z, H, I, rw', q⟩
  by_cases h0 : 0 ≤ i
  · have hj : i.toNat = j := by
      rw [seqIndex_of h0 h5] at h1
      exact Option.some.inj h1
    exact item_listR pl.isList h0 (by omega) (by rw [hj]; simpa using ew) fin hs
  · have hj : (i + (its.toArray.size : Int)).toNat = j := by
      rw [seqIndex_neg (by omega) h4] at h1
      rw [List.size_toArray, ← hl]
      exact Option.some.inj h1
    exact subscriptTail_builtinR (x := w) pl.isList.typeIs slot_list_getitem.lookup
      (wpAny_getItem_list_neg (Q := fun r s' => r = w ∧ EP X pins σ Q r s') pl.isList (by omega) (by rw [List.size_toArray] <;> omega) (by omega) (by rw [hj]; simpa using ew) ⟨rfl, fin⟩) hs
theorem ix_tup : IxR X (rIxT X.K) := by
  intro value slice pins s σ H x y v u Q I rx ry h hs
  obtain ⟨p, xs, i, z, rfl, rfl, hq, he, q⟩ := h
  cases rx
  obtain ⟨t, rfl⟩ := ry
  obtain ⟨its, r, pl, hz⟩ := I.tuple hq
  obtain ⟨j, h1, h2, h3, h4, h5⟩ := atI_get he
  obtain ⟨w, ew, rw'⟩ := r.get h2
  have hl := r.length
  have hn := line63
  have fin : EP X pins σ Q w s := ⟨z, H, I, rw', q⟩
  exact subscriptTail_builtinR (x := w) pl.typeIs slot_tuple_getitem.lookup
    (getItem_tuple (j := j) (Q := fun r s' => r = w ∧ EP X pins σ Q r s') pl (by omega) (by omega) (by rw [List.size_toArray, ← hl]; exact h1) (by simpa using ew) ⟨rfl, fin⟩) hs
theorem ix_str : IxR X rIxS := by
  intro value slice pins s σ H x y v u Q I rx ry h hs
  obtain ⟨z, i, c, rfl, rfl, hz, he, q⟩ := h
  obtain ⟨t, rfl⟩ := rx
  obtain ⟨t', rfl⟩ := ry
  obtain ⟨j, h1, h2, h3, h4, h5⟩ := atI_get he
  have hl : z.cps.toList.length = z.length := by simp [Str.length]
  rw [hl] at h1 h4 h5
  have hn := line63
  exact tail_any (typeIs_str s z t) slot_str_getitem.lookup (getItem_str (c := c) (by
    have e1 : decide (i < -(2 ^ 63 : Int)) = false := decide_eq_false (by omega)
    have e2 : decide (i ≥ 2 ^ 63) = false := decide_eq_false (by omega)
    rw [e1, e2, Bool.or_false]) (by rw [h1]; simpa using h2) ⟨.str ⟨#[c]⟩, H, I.tok _, ⟨_, rfl⟩, q⟩) hs
/-- list, tuple or str -/
def rIx (K : PySem.W.Frag) : R2 := fun x y H Q => rIxL K x y H Q ∨ rIxT K x y H Q ∨ rIxS x y H Q
theorem ix_seq : IxR X (rIx X.K) := ix_list.or (ix_tup.or ix_str)

/-- the list's object behind a store -/
theorem mapSeq_set (its : List Value) (n j : Nat) (u : Value) : Obj.mapSeq (·.setIfInBounds j u) { cls := .type "list", data := .seq its.toArray n } = { cls := .type "list", data := .seq (its.set j u).toArray n } := by
  simp [Obj.mapSeq]
theorem Inv.lst {pins : List (Addr × Obj)} {σ : St} {H : Hp} {s : Shared} {p : Addr} {xs : List V} (I : Inv X pins σ H s) (h : H p = some (.lst xs)) :
    ∃ (its : List Value) (n : Nat), Vals xs its ∧ s.heap.get? p = some { cls := .type "list", data := .seq its.toArray n } ∧ xs.length ≤ sizeLine := by
  obtain ⟨z, its, n, r, e⟩ := I.hok p _ h
  exact ⟨its, n, r, e, z⟩
/-- the list at p is written by an update of its object -/
theorem Inv.lstUpd {pins : List (Addr × Obj)} {σ : St} {H : Hp} {s : Shared} {p : Addr} {xs ys : List V} {its its' : List Value} {n n' : Nat} {f : Obj → Obj} (I : Inv X pins σ H s) (h : H p = some (.lst xs))
    (ho : s.heap.get? p = some { cls := .type "list", data := .seq its.toArray n }) (hf : f { cls := .type "list", data := .seq its.toArray n } = { cls := .type "list", data := .seq its'.toArray n' }) (r : Vals ys its') (hz : ys.length ≤ sizeLine) (t : Nat) :
    Inv X pins σ (upd H p (.lst ys)) { s with heap := s.heap.update p f, toks := t } := by
  have e : (s.heap.update p f).get? p = some { cls := .type "list", data := .seq its'.toArray n' } := by
    rw [Heap.get?_update_self f ho (by rw [hf] <;> rfl), hf]
  refine I.write (x := p) (e := p) (by rw [h]; trivial) (.inl rfl) (fun b u hb q => (Heap.get?_update_other _ _ (Ne.symm hb)).trans q) ⟨_, e⟩ ?_
  exact ⟨hz, its', n', r, e⟩
def rSetL : V → V → V → Hp → (Hp → Prop) → Prop := fun o i v H Q => ∃ p xs k j, o = .ref p ∧ i = .int k ∧ H p = some (.lst xs) ∧ ixN xs.length k = some j ∧ Q (upd H p (.lst (xs.set j v)))
theorem set_list : PSet X rSetL := by
  intro pins s σ H o i v ov iv u Q I ro ri rv h
  obtain ⟨p, xs, k, j, rfl, rfl, hp, hj, q⟩ := h
  cases ro
  obtain ⟨t, rfl⟩ := ri
  obtain ⟨its, n, r, ho, hz⟩ := I.lst hp
  obtain ⟨h1, h2, h3, h4⟩ := ixN_seq hj
  have hl := r.length
  have hn := line63
  have I' : Inv X pins σ (upd H p (.lst (xs.set j v))) { s with heap := s.heap.update p (Obj.mapSeq (·.setIfInBounds j u)) } :=
    I.lstUpd hp ho (mapSeq_set its n j u) (r.set rv j) (by rw [List.length_set]; exact hz) s.toks
  by_cases h0 : 0 ≤ k
  · have hk : k.toNat = j := by
      rw [seqIndex_of h0 h4] at h1
      exact Option.some.inj h1
    exact PySem.W.ki_setAt ho h0 (by omega) (by rw [List.size_toArray, ← hl]; exact h4) (by rw [hk]; exact ⟨_, I', q⟩)
  · have hk : (k + (its.toArray.size : Int)).toNat = j := by
      rw [seqIndex_neg (by omega) h3] at h1
      rw [List.size_toArray, ← hl]
      exact Option.some.inj h1
    exact PySem.W.ki_setBack ho (by omega) (by rw [List.size_toArray, ← hl]; exact h3) (by omega) (by rw [hk]; exact ⟨_, I', q⟩)

theorem slice_bounds (lo hi : Option Int) (n : Nat) : (sliceBounds lo hi none n).1 = ((HT.sIx n 0 lo : Nat) : Int) ∧ (sliceBounds lo hi none n).2.1 = ((HT.sIx n n hi : Nat) : Int) ∧ (sliceBounds lo hi none n).2.2 = 1 := by
  refine ⟨?_, ?_, rfl⟩
  · cases lo with
    | none => simp [sliceBounds, HT.sIx]
    | some i =>
      simp only [sliceBounds, HT.sIx, Option.getD_none, show (1 : Int) > 0 by decide, if_true]
      by_cases h : i < 0
      · simp only [h, if_true] <;> omega
      · simp only [h, if_false] <;> omega
  · cases hi with
    | none => simp [sliceBounds, HT.sIx]
    | some i =>
      simp only [sliceBounds, HT.sIx, Option.getD_none, show (1 : Int) > 0 by decide, if_true]
      by_cases h : i < 0
      · simp only [h, if_true] <;> omega
      · simp only [h, if_false] <;> omega
theorem slicePick_cut (its : List Value) (lo hi : Option Int) : slicePick its.toArray lo hi none = ((its.drop (HT.sIx its.length 0 lo)).take (HT.sIx its.length its.length hi - HT.sIx its.length 0 lo)).toArray := by
  obtain ⟨h1, h2, h3⟩ := slice_bounds lo hi its.toArray.size
  unfold slicePick
  rw [h1, h2, h3]
  simp only [sliceRange_one, pick_run, List.size_toArray] <;> rfl
/-- xs[lo:hi] of a list: a new list -/
def rSlL (K : PySem.W.Frag) : V → Option Int → Option Int → Hp → VK → Prop := fun x lo hi H Q => ∃ a xs, x = .ref a ∧ SqL K H a xs ∧ ∀ p, H p = none → Q (.ref p) (upd H p (.lst (cutV xs lo hi)))
theorem sl_list : SlR X (rSlL X.K) := by
  intro pins s σ H x v vl vu lo hi sl Q I rx hs pl pu h
  obtain ⟨a, xs, rfl, hx, q⟩ := h
  cases rx
  obtain ⟨its, r, ht, hz⟩ := I.list hx
  have hlen := r.length
  refine ⟨"list", _, slot_list_getitem.lookup, ht.isList.typeIs, ?_⟩
  refine wpAny_getItem_list_slice ht.isList hs pl pu .none (by simp) ?_ (by rw [List.size_toArray] <;> omega)
  rw [slicePick_cut, ← hlen]
  refine ⟨.ref s.heap.objs.size, _, I.laid (t' := s.toks) (o := .lst (cutV xs lo hi)) (fun b ob q => Heap.get?_push_of_some _ q) (Nat.le_refl _) ?_, rfl, q _ (I.hok.fresh (Nat.le_refl _))⟩
  exact ⟨Nat.le_trans (cutV_length xs lo hi) hz, _, 0, (r.drop (HT.sIx xs.length 0 lo)).take (HT.sIx xs.length xs.length hi - HT.sIx xs.length 0 lo), Heap.get?_push_size _ rfl⟩

theorem call_len_seq : CallR X (.builtin "len") (fun xs H Q => ∃ p ys, xs = [.ref p] ∧ (SqL X.K H p ys ∨ SqT X.K H p ys) ∧ Q (.int ys.length) H) := by
  intro pins s σ H xs us Q I r h
  obtain ⟨p, ys, rfl, hq, q⟩ := h
  obtain ⟨u, rfl, rx⟩ := vals1 r
  cases rx
  have hn := line63
  rcases hq with hq | hq
  · obtain ⟨its, r', pl, hz⟩ := I.list hq
    have hlen := r'.length
    exact Calls.call_len_list pl.isList (by simp only [List.size_toArray] <;> omega) ⟨.int ys.length, H, I.tok _, ⟨s.toks + 1, by rw [List.size_toArray, hlen]⟩, q⟩
  · obtain ⟨its, r', pl, hz⟩ := I.tuple hq
    have hlen := r'.length
    exact len_tuple pl (by simp only [List.size_toArray] <;> omega) ⟨.int ys.length, H, I.tok _, ⟨s.toks + 1, by rw [List.size_toArray, hlen]⟩, q⟩
theorem call_len_str : CallR X (.builtin "len") (fun xs H Q => ∃ z, xs = [.str z] ∧ z.length ≤ sizeLine ∧ Q (.int z.length) H) := by
  intro pins s σ H xs us Q I r h
  obtain ⟨z, rfl, hz, q⟩ := h
  obtain ⟨u, rfl, t, rfl⟩ := vals1 r
  have hn := line63
  exact len_str (by omega) ⟨.int z.length, H, I.tok _, ⟨_, rfl⟩, q⟩
theorem CallR.or {f : Value} {r r' : List V → Hp → VK → Prop} (h : CallR X f r) (h' : CallR X f r') : CallR X f (fun xs H Q => r xs H Q ∨ r' xs H Q) := by
  intro pins s σ H xs us Q I rs q
  rcases q with q | q
  · exact h pins s σ H xs us Q I rs q
  · exact h' pins s σ H xs us Q I rs q
/-- the value is of that builtin type -/
def tyV (K : PySem.W.Frag) (T : String) (x : V) (H : Hp) : Prop := match x with
  | .str _ => T = "str"
  | .int _ => T = "int"
  | .ref p => (T = "list" ∧ ∃ xs, SqL K H p xs) ∨ (T = "tuple" ∧ ∃ o, K.lookup p = some o ∧ o.cls = .type "tuple" ∧ o.dict = none) ∨
      (T = "dict" ∧ ((∃ kvs, H p = some (.dK kvs)) ∨ ∃ kvs, H p = some (.dT kvs))) ∨ (T = "set" ∧ ∃ S n, H p = some (.set S n))
  | _ => False
theorem tyV_is {pins : List (Addr × Obj)} {σ : St} {H : Hp} {s : Shared} {T : String} {x : V} {v : Value} (I : Inv X pins σ H s) (r : RelV x v) (ty : tyV X.K T x H) :
    s.TypeIs v T ∧ ∀ a, v = .ref a → ∃ ob, s.heap.get? a = some ob ∧ ob.dict = none := by
  cases x with
  | str z =>
    obtain ⟨t, rfl⟩ := r
    cases (show T = "str" from ty)
    exact ⟨typeIs_str s z t, fun _ e => nomatch e⟩
  | int i =>
    obtain ⟨t, rfl⟩ := r
    cases (show T = "int" from ty)
    exact ⟨typeIs_int s i t, fun _ e => nomatch e⟩
  | ref p =>
    cases r
    rcases ty with ⟨rfl, xs, hq⟩ | ⟨rfl, o, hk, hc, hd⟩ | ⟨rfl, hk⟩ | ⟨rfl, S, n, hk⟩
    · obtain ⟨its, _, pl, _⟩ := I.list hq
      refine ⟨pl.isList.typeIs, fun a e => ?_⟩
      cases e
      obtain ⟨o, n, e, c, hd, _⟩ := pl
      exact ⟨o, e, hd⟩
    · refine ⟨⟨o, I.kIn p o hk, hc⟩, fun a e => ?_⟩
      cases e
      exact ⟨o, I.kIn _ o hk, hd⟩
    · have z : ∃ o, s.heap.get? p = some o ∧ o.ExactDict := by
        rcases hk with ⟨kvs, hk⟩ | ⟨kvs, hk⟩
        · obtain ⟨_, _, _, _, o, _, _, e, ex, _⟩ := I.hok p _ hk
          exact ⟨o, e, ex⟩
        · obtain ⟨_, _, _, _, o, _, _, e, ex, _⟩ := I.hok p _ hk
          exact ⟨o, e, ex⟩
      obtain ⟨o, e, ex⟩ := z
      refine ⟨⟨o, e, ex.1⟩, fun a e2 => ?_⟩
      cases e2
      exact ⟨o, e, ex.2.1⟩
    · obtain ⟨o, _, _, _, e, ex, _⟩ := I.hok p _ hk
      refine ⟨⟨o, e, ex.1⟩, fun a e2 => ?_⟩
      cases e2
      exact ⟨o, e, ex.2.1⟩
  | _ => exact False.elim ty
variable {o e : Expr} {es : List Expr} {to : TE} {t : TA} {name : Str} {apos cpos : Pos} {T id : String} {r : V → List V → Hp → VK → Prop}
end
end L2

namespace L2
open PySem PySem.Spec PyProof.Rows

def MtM (X : Cx) (id : String) (r : V → List V → Hp → VK → Prop) : Prop :=
  ∀ (pins : List (Addr × Obj)) (s : Shared) (σ : St) (H : Hp) (x : V) (xs : List V) (v : Value) (us : List Value) (Q : VK), Inv X pins σ H s → RelV x v → Vals xs us → r x xs H Q →
    wpAny (model X.prog X.w) X.A (call (.builtin id) (v :: us)) (EP X pins σ Q) X.xe s

theorem Vals.one : ∀ {x : V} {us : List Value}, Vals [x] us → ∃ u, us = [u] ∧ RelV x u
  | _, _, .cons r .nil => ⟨_, rfl, r⟩
theorem Vals.two : ∀ {x y : V} {us : List Value}, Vals [x, y] us → ∃ u v, us = [u, v] ∧ RelV x u ∧ RelV y v
  | _, _, _, .cons r (.cons q .nil) => ⟨_, _, rfl, r, q⟩
theorem Vals.zero : ∀ {us : List Value}, Vals [] us → us = []
  | _, .nil => rfl
theorem Vals.dropLast {xs : List V} {us : List Value} (h : Vals xs us) : Vals xs.dropLast us.dropLast := by
  induction h with
  | nil => exact .nil
  | cons r t ih =>
    cases t with
    | nil => exact .nil
    | cons q t' => exact .cons r ih
theorem Vals.eraseIdx : ∀ {xs : List V} {us : List Value} (i : Nat), Vals xs us → Vals (xs.eraseIdx i) (us.eraseIdx i)
  | _, _, _, .nil => .nil
  | _, _, 0, .cons _ t => t
  | _, _, i + 1, .cons r t => .cons r (Vals.eraseIdx i t)
theorem Vals.reverse {xs : List V} {us : List Value} (h : Vals xs us) : Vals xs.reverse us.reverse := by
  induction h with
  | nil => exact .nil
  | cons r t ih => rw [List.reverse_cons, List.reverse_cons]; exact Vals.append ih (.cons r .nil)
theorem erase_last {α : Type} (l : List α) : l.eraseIdx (l.length - 1) = l.dropLast := by
  induction l with
  | nil => rfl
  | cons a r ih =>
    cases r with
    | nil => rfl
    | cons b r =>
      have e : (a :: b :: r).length - 1 = ((b :: r).length - 1) + 1 := by
        have h1 : (a :: b :: r).length = r.length + 2 := rfl
        have h2 : (b :: r).length = r.length + 1 := rfl
        omega
      rw [e, List.eraseIdx_cons_succ, ih]
      all_goals rfl
section
variable {X : Cx} {pins : List (Addr × Obj)} {σ : St} {H : Hp} {s : Shared} {l b : Addr} {xs ys zs : List V}

theorem Inv.lset {its its' : List Value} {n : Nat} {f : Array Value → Array Value} {t' : Nat} (I : Inv X pins σ H s) (hH : H l = some (.lst xs))
    (e : s.heap.get? l = some { cls := .type "list", data := .seq its.toArray n }) (hf : f its.toArray = its'.toArray) (hv : Vals ys its') (hz : ys.length ≤ sizeLine) :
    Inv X pins σ (upd H l (.lst ys)) { s with heap := s.heap.update l (Obj.mapSeq f), toks := t' } := by
  have q := PySem.IsL.update e f
  rw [hf] at q
  refine I.write (x := l) (e := l) (by rw [hH]; exact trivial) (.inl rfl) (fun b' u hb hu => (Heap.get?_update_other s.heap (Obj.mapSeq f) (Ne.symm hb)).trans hu) ⟨_, q⟩ ?_
  exact ⟨hz, its', _, hv, q⟩
theorem Inv.lnew {its : List Value} {t' : Nat} (I : Inv X pins σ H s) (hv : Vals ys its) (hz : ys.length ≤ sizeLine) :
    Inv X pins σ (upd H s.heap.objs.size (.lst ys)) { s with heap := s.heap.push { cls := .type "list", data := .seq its.toArray }, toks := t' } :=
  I.laid (fun _ _ q => Heap.get?_push_of_some _ q) (Nat.le_refl _) ⟨hz, its, 0, hv, Heap.get?_push_size _ rfl⟩
theorem Inv.fresh (I : Inv X pins σ H s) : H s.heap.objs.size = none := I.hok.fresh (Nat.le_refl _)
theorem Inv.lstM (I : Inv X pins σ H s) (hH : H l = some (.lst xs)) : xs.length ≤ sizeLine ∧ ∃ (its : List Value) (n : Nat), Vals xs its ∧ xs.length = its.length ∧ s.heap.get? l = some { cls := .type "list", data := .seq its.toArray n } := by
  obtain ⟨z, its, n, r, e⟩ := I.hok l _ hH
  exact ⟨z, its, n, r, r.length, e⟩

theorem notLongL {n : Nat} (h : n ≤ sizeLine) : Builtin.List.listTooLong n = false := by
  unfold Builtin.List.listTooLong
  exact decide_eq_false (by omega)
end

section
variable {X : Cx}

def rAppend : V → List V → Hp → VK → Prop := fun x vs H Q => ∃ l xs y, x = .ref l ∧ vs = [y] ∧ H l = some (.lst xs) ∧ xs.length < sizeLine ∧ Q .non (upd H l (.lst (xs ++ [y])))
theorem mt_append : MtM X "list.append" rAppend := by
  intro pins s σ H x vs v us Q I rx rv h
  obtain ⟨l, xs, y, rfl, rfl, hH, hz, q⟩ := h
  cases rx
  obtain ⟨u, rfl, ru⟩ := rv.one
  obtain ⟨z, its, n, r, hl, e⟩ := I.lstM hH
  refine call_meets F.slot_list_append ⟨_, e, rfl⟩ F.entry_list_append (F.args_list_append_2 _ _) (PySem.list_append l its.toArray n u (by rw [List.size_toArray]; omega)) ⟨e, ?_⟩
  refine ⟨.non, _, I.lset (its' := its ++ [u]) hH e (by simp) (r.append (.cons ru .nil)) ?_, rfl, q⟩
  rw [List.length_append, List.length_singleton]
  omega

def rExtend : V → List V → Hp → VK → Prop := fun x vs H Q => ∃ l b xs zs, x = .ref l ∧ vs = [.ref b] ∧ H l = some (.lst xs) ∧ H b = some (.lst zs) ∧ xs.length + zs.length ≤ sizeLine ∧ Q .non (upd H l (.lst (xs ++ zs)))
theorem mt_extend : MtM X "list.extend" rExtend := by
  intro pins s σ H x vs v us Q I rx rv h
  obtain ⟨l, b, xs, zs, rfl, rfl, hH, hB, hz, q⟩ := h
  cases rx
  obtain ⟨u, rfl, ru⟩ := rv.one
  cases ru
  obtain ⟨z, its, n, r, hl, e⟩ := I.lstM hH
  obtain ⟨z2, its2, n2, r2, hl2, e2⟩ := I.lstM hB
  have hsz : its.toArray.size + its2.toArray.size ≤ sizeLine := by rw [List.size_toArray, List.size_toArray]; omega
  have hlong : ¬ (!its.toArray.isEmpty && Builtin.List.listTooLong (its.toArray.size + its2.toArray.size)) = true := by
    rw [notLongL hsz, Bool.and_false]
    exact Bool.false_ne_true
  refine call_meets F.slot_list_extend ⟨_, e, rfl⟩ F.entry_list_extend (F.args_list_extend_2 _ _)
    (AutoSeq1.list_extend_list_list_0 l its.toArray n b its2.toArray n2 hlong (by rw [List.size_toArray]; omega) (by omega)) ⟨e, e2, ?_⟩
  refine ⟨.non, _, I.lset (its' := its ++ its2) hH e (by simp) (r.append r2) ?_, rfl, q⟩
  rw [List.length_append]
  omega

def rPop : V → List V → Hp → VK → Prop := fun x vs H Q => ∃ l xs y, x = .ref l ∧ vs = [] ∧ H l = some (.lst xs) ∧ xs[xs.length - 1]? = some y ∧ Q y (upd H l (.lst xs.dropLast))
theorem mt_pop : MtM X "list.pop" rPop := by
  intro pins s σ H x vs v us Q I rx rv h
  obtain ⟨l, xs, y, rfl, rfl, hH, hy, q⟩ := h
  cases rx
  have hus := rv.zero
  subst hus
  obtain ⟨z, its, n, r, hl, e⟩ := I.lstM hH
  obtain ⟨u, hu, ru⟩ := r.get hy
  have hy' : its.toArray[its.toArray.size - 1]? = some u := by
    show its.toArray[its.length - 1]? = some u
    rw [← Array.getElem?_toList, ← hl]
    exact hu
  refine call_meets F.slot_list_pop ⟨_, e, rfl⟩ F.entry_list_pop (F.args_list_pop_1 _) (MeetsSeq.list_pop_last l its.toArray n u hy' (by rw [List.size_toArray]; omega)) ⟨e, ?_⟩
  refine ⟨y, _, I.lset (its' := its.dropLast) hH e ?_ r.dropLast ?_, ru, q⟩
  · show its.toArray.eraseIdxIfInBounds (its.toArray.size - 1) = its.dropLast.toArray
    rw [List.size_toArray, List.eraseIdxIfInBounds_toArray, erase_last]
  · rw [List.length_dropLast]
    omega

def rCat : R2 := fun x y H Q => ∃ l b xs zs, x = .ref l ∧ y = .ref b ∧ H l = some (.lst xs) ∧ H b = some (.lst zs) ∧ xs.length + zs.length ≤ sizeLine ∧ ∀ p, H p = none → Q (.ref p) (upd H p (.lst (xs ++ zs)))
theorem op_cat : OpR X (binaryOp .Add) rCat := by
  intro pins s σ H x y v u Q I rx ry h
  obtain ⟨l, b, xs, zs, rfl, rfl, hH, hB, hz, q⟩ := h
  cases rx
  cases ry
  obtain ⟨z, its, n, r, hl, e⟩ := I.lstM hH
  obtain ⟨z2, its2, n2, r2, hl2, e2⟩ := I.lstM hB
  refine PySem.P.add_list e e2 ?_ (by rw [List.size_toArray, List.size_toArray]; omega)
  have ea : its.toArray ++ its2.toArray = (its ++ its2).toArray := by simp
  rw [ea]
  exact ⟨.ref _, _, I.lnew (t' := s.toks) (r.append r2) (by rw [List.length_append]; omega), rfl, q _ I.fresh⟩
theorem len_rep {α : Type} (xs : List α) (k : Nat) : (List.replicate k xs).flatten.length = k * xs.length := by
  induction k with
  | zero => simp
  | succ k ih => rw [List.replicate_succ, List.flatten_cons, List.length_append, ih, Nat.succ_mul, Nat.add_comm]
end

section
variable {prog : Program} {w : World} {A : Around} {E : Value → Shared → Prop} {s : Shared}
end

section
variable {X : Cx}
end
end L2

namespace Att
open PySem PySem.W PySem.Calls PyProof.Rows

theorem ints_of_wellAll {P : Params} {h : Heap} : ∀ (ns : List Int) (vs : List Value), WellAll P h vs (ns.map WData.int) → IntsAre vs ns := by
  intro ns
  induction ns with
  | nil =>
    intro vs w
    rw [List.map_nil] at w
    cases w
    exact .nil
  | cons n ns ih =>
    intro vs w
    rw [List.map_cons] at w
    cases w with
    | cons a b =>
      cases a
      exact .cons _ _ (ih _ b)

theorem script_of {l : OpenLaw} {n : Nat} (hn : l.most = some n) {P : Params} {h : Heap} {args : List WData} {vals : List Value}
    (hpre : l.row.toRowW.claim.pre args = true) (hwl : WellAll P h vals args) :
    ∃ a vs ns, vals = [Value.ref a] ∧ args = [WData.list (ns.map WData.int)] ∧ h.get? a = some { cls := .type "list", data := .seq vs.toArray } ∧ IntsAre vs ns ∧ ns.length ≤ n := by
  have hsh : WShape.hasAll [] args [.list .int] = true := (pre_splitW hpre).1
  have hc : l.pre.holds [] { args := args } = true := (pre_splitW hpre).2
  obtain ⟨d, r, rfl, h1, h2⟩ := hasAllW_cons hsh
  obtain rfl := hasAllW_nil h2
  obtain ⟨xs, rfl, h3⟩ := hasW_list h1
  obtain ⟨ns, rfl⟩ := items_int h3
  have hlen : ns.length ≤ n := by
    unfold OpenLaw.pre at hc
    have h4 : (WTm.not (.lt (.lit (.int (n : Int))) (.len (.arg 0)))).holds [] { args := [.list (ns.map .int)] } = true := by
      have h4 := (holds_andW hc).1
      rw [hn] at h4
      exact h4
    have h5 := condW_of h4 (w_not (w_lt w_lit (w_len_list (w_arg rfl))))
    rw [List.length_map] at h5
    refine Nat.le_of_not_lt fun q => ?_
    have q' : (n : Int) < ((ns.length : Nat) : Int) := by omega
    first
      | (rw [decide_eq_true q'] at h5; exact absurd h5 (by decide))
      | (simp at h5; omega)
  cases hwl with
  | cons w1 w2 =>
    cases w2
    cases w1 with
    | list ho hall => exact ⟨_, _, ns, rfl, rfl, ho, ints_of_wellAll ns _ hall, hlen⟩

theorem post_true (l : OpenLaw) (args : List WData) : l.row.toRowW.claim.post args (.bool true) args = true :=
  postW_of (r := l.row.toRowW) (X := (true == true))
    (show WShape.has [] (.bool true) .bool = true by first | rfl | decide | simp [WShape.has, WShape.arms, WShape.armsAll])
    (show (WTm.eq .res (.lit (.bool true))).value [] { args := args, res := some (.bool true), after := args } = some (.bool (true == true)) from w_eq_bool (w_res rfl) w_lit) rfl

/-- the same from a codeAny of the CALL (for a layer whose function contracts speak of calls) -/
theorem attach_call {l : OpenLaw} {n : Nat} {q : Program} {loose : List Str} {XP : (Str → Option Value) → Heap → Prop} {YP : World → Heap → Prop} {d : DefRec}
    (hn : l.most = some n) (hdf : d.params.defaults = [])
    (call : ∀ (w : World) (s₀ s₁ : Shared) (mg mb : Str → Option Value) (fa : Addr) (o : Obj) (pm cd doc : Value) (a : Addr) (vs : List Value) (ns : List Int),
      Ground q loose [] XP w s₀ mg mb s₁.heap → YP w s₁.heap →
      s₁.heap.get? fa = some o → o.data = .func (docDef d.name d.params d.body d.scope pm cd doc) → s₁.heap.CodeRec cd d.name → mg d.name = some (.ref fa) →
      s₁.heap.get? a = some { cls := .type "list", data := .seq vs.toArray } → IntsAre vs ns → ns.length ≤ n → s₁.gens = #[] →
      codeAny (model l.prog w) callerA (.call (.ref fa) ⟨[.ref a], []⟩) (fun r s' => r = .ok (.ret (.bool true)) ∧ OldK s₁.heap s'.heap ∧ s'.os = s₁.os ∧ AllBare s'.gens) s₁) :
    WalkO q loose XP YP l.row.toRowW d [] (fun f vs => PySem.call f vs) := by
  intro w s₀ s₁ mg mb G Y fa o pm cd doc dV kV ho hd hcd hD hmg hg args vals as hpre hlay hrd hwl hlo
  obtain rfl : dV = .none := Dflts.none hD hdf
  obtain rfl : kV = .none := Dflts.noKw hD
  obtain ⟨a, vs, ns, rfl, rfl, hobj, hints, hlen⟩ := script_of hn hpre hwl
  refine enter_call (codeAny_mono (call w s₀ s₁ mg mb fa o pm cd doc a vs ns G Y ho (fd_plain hd) hcd hmg hobj hints hlen hg) fun r s' hq => ?_)
  obtain ⟨rfl, h2, h3, h4⟩ := hq
  exact ⟨.inl ⟨.bool true, .bool true, [], rfl, fun _ => rfl, .bool true, post_true l _, fun _ => ⟨List.Pairwise.nil, fun _ hm => (nomatch hm)⟩⟩, h2, h3, h4⟩

section
variable {prog : Program} {w : World} {A : Around} {E : Value → Shared → Prop} {s : Shared} {K : Frag}

end
end Att

namespace L2
open PySem PySem.Spec PyProof.Rows

theorem vals_ints : ∀ {vs : List Value} {ns : List Int}, IntsAre vs ns → Vals (ns.map V.int) vs
  | _, _, .nil => .nil
  | _, _, .cons n t h => .cons ⟨t, rfl⟩ (vals_ints h)

/-- nothing is tracked but the script, known to the object (or it is an object of the module) -/
def Only (H : Hp) : Prop := ∀ b, H b = none ∨ ∃ o xs, H b = some (.frz o (.lst xs))

/-- THE HEAD: the law's promise, at the heap behind the top. F, the promise of the law's def, may use that base is part of the heap (so K.In base, base.Ns mainGlobals mg stand in Mod) -/
theorem law_call {P : Program} {w : World} {K : PySem.W.Frag} {mg mb : Str → Option Value} {CX : CXT} {k : Nat} {fa a : Addr} {fd : FuncData} {x : Str} {sp : Sp} {s₁ : Shared} {vs : List Value} {ns : List Int}
    (KX : K.In s₁.heap) (hns : s₁.heap.Ns mainGlobals mg) (hb : s₁.heap.Ns builtinsNs mb) (hbb : ∀ x : Str, x ≠ "__name__" → mb x = bootBuiltins x) (hlim : s₁.heap.NoLimit) (hg : s₁.gens = #[])
    (ha : s₁.heap.get? a = some { cls := .type "list", data := .seq vs.toArray }) (hi : IntsAre vs ns) (hl : ns.length ≤ sizeLine) (hr : Room k callerA)
    (F : ∀ base : Heap, K.In base → base.Ns mainGlobals mg → FnOk P w K mg base CX k fa fd [x] sp) (hbind : ∀ (s : Shared) (u : Value), BindsTo s fd ⟨[u], []⟩ [(x, u)])
    (hsp : ∀ H : Hp, Only H → SqL K H a (ns.map V.int) → sp [.ref a] H (fun v _ => v = .bl true) fun _ _ _ => False)
    (hCX : ∀ H e s', CX [] H s₁ (fun _ _ _ => False) e s' → False) :
    codeAny (model P w) callerA (.call (.ref fa) ⟨[.ref a], []⟩) (fun r s' => r = .ok (.ret (.bool true)) ∧ OldK s₁.heap s'.heap ∧ s'.os = s₁.os ∧ AllBare s'.gens) s₁ := by
  have rv := vals_ints hi
  have lenV := hi.length
  -- from an abstract heap in which nothing but the script may be tracked
  have core : ∀ H : Hp, Only H → SqL K H a (ns.map V.int) → HOk P w H s₁.heap → (∀ b, H b ≠ none → b = a) → (H a ≠ none → K.lookup a = none) →
      codeAny (model P w) callerA (.call (.ref fa) ⟨[.ref a], []⟩) (fun r s' => r = .ok (.ret (.bool true)) ∧ OldK s₁.heap s'.heap ∧ s'.os = s₁.os ∧ AllBare s'.gens) s₁ := by
    intro H hO hS hok hA hK
    have base_of : ∀ {b : Addr} {o : Obj}, s₁.heap.get? b = some o → H b = none → (hidT s₁.heap H).get? b = some o := fun e n => hidT_get e n
    have noA : ∀ {b : Addr} {o : Obj} {es : Array DictEntry} {ep : Nat}, s₁.heap.get? b = some o → o.data = .dict es ep → H b = none := fun {b o es ep} e d => by
      cases q : H b with
      | none => rfl
      | some u =>
        have e' : b = a := hA b (by rw [q]; simp)
        subst e'
        rw [ha] at e; cases e
        have d' : Data.seq vs.toArray _ = Data.dict es ep := d
        cases d'
    have nsK : ∀ {b : Addr} {m : Str → Option Value}, s₁.heap.Ns b m → (hidT s₁.heap H).Ns b m := fun {b m} ⟨o, es, ep, e, d, r⟩ => ⟨o, es, ep, base_of e (noA e d), d, r⟩
    have hKb : K.In (hidT s₁.heap H) := fun b o e => base_of (KX b o e) (by
      cases q : H b with
      | none => rfl
      | some u =>
        have e' : b = a := hA b (by rw [q]; simp)
        subst e'
        rw [hK (by rw [q]; simp)] at e; cases e)
    have hM : Mod K mg (hidT s₁.heap H) := ⟨hKb, nsK hns, ⟨mb, nsK hb, hbb⟩, let ⟨mc, h1, h2⟩ := hlim; ⟨mc, nsK h1, h2⟩⟩
    have e0 : Env0 P w K mg (hidT s₁.heap H) callerA [] s₁ H := ⟨rfl, hM, fun b o e => of_hidT e, Nat.le_of_eq (hidT_size _ _), trivial, fun b hb => absurd (show b ∈ ([] : List Addr) from hb) (by simp), hok, .of_eq hg⟩
    refine codeAny_mono ((F _ hKb (nsK hns)).run callerA [] s₁ H ⟨[.ref a], []⟩ [.ref a] [.ref a] _ _ hr e0 (hbind s₁ (.ref a)) (.cons rfl .nil) (hsp H hO hS)) fun r s' h => ?_
    cases r with
    | error e => exact (hCX H e s' h).elim
    | ok fl =>
      cases fl with
      | next => exact False.elim h
      | brk => exact False.elim h
      | cont => exact False.elim h
      | ret u =>
        obtain ⟨v, H', os, bare, un, hok', r', q⟩ := h
        have q' : v = .bl true := q
        subst q'
        obtain rfl : u = Value.bool true := r'
        refine ⟨rfl, OldK.of_keep fun b o e => ?_, os, bare⟩
        cases q : H b with
        | none => exact un.keep b o e q (by intro z; exact absurd (show b ∈ ([] : List Addr) from z) (by simp)) (by simp)
        | some u =>
          rcases hO b with z | ⟨ob, xs, z⟩
          · rw [q] at z; cases z
          · have z2 := un.frzs b ob _ z
            obtain ⟨e1, _⟩ := hok b _ z
            obtain ⟨e2, _⟩ := hok' b _ z2
            rw [e] at e1; cases e1
            exact e2
  cases hk : K.lookup a with
  | some o =>
    -- the script is one of the module's own objects
    have e := KX a o hk
    rw [ha] at e
    cases e
    refine core (fun _ => none) (fun _ => .inl rfl) (.inr ⟨_, vs.toArray, _, hk, rfl, rfl, rfl, by rw [List.size_toArray, lenV]; exact hl, by simpa using rv⟩) (fun b u z => by have z' : (none : Option HO) = some u := z; cases z') (fun b z => absurd rfl z) fun z => absurd rfl z
  | none =>
    refine core (fun b => if b = a then some (.frz { cls := .type "list", data := .seq vs.toArray } (.lst (ns.map V.int))) else none) (fun b => ?_) (.inl (.inr ⟨{ cls := .type "list", data := .seq vs.toArray }, if_pos rfl⟩)) (fun b u z => ?_) (fun b z => ?_) fun _ => hk
    · by_cases hb : b = a
      · exact .inr ⟨_, _, if_pos hb⟩
      · exact .inl (if_neg hb)
    · by_cases hb : b = a
      · have z' := (if_pos hb).symm.trans z
        cases z'
        subst hb
        exact ⟨ha, by rw [List.length_map]; exact hl, vs, _, rv, ha⟩
      · have z' := (if_neg hb).symm.trans z
        cases z'
    · by_cases hb : b = a
      · exact hb
      · exact absurd (if_neg hb) z
end L2

namespace L2
open PySem PySem.Spec PyProof.Rows

/-- the goal that k_head leaves (case hc), from the law's promise. F gives the function object fd (K's own) once, then the promise over every base -/
theorem walk_of {l : PySem.W.OpenLaw} {n k : Nat} {q : Program} {loose : List Str} {XP : (Str → Option Value) → Heap → Prop} {YP : World → Heap → Prop} {d : DefRec} {K : Params → PySem.W.Frag} {CX : World → CXT} {sp : World → Sp} {x : Str}
    (hn : l.most = some n) (hn2 : n ≤ sizeLine) (hdf : d.params.defaults = []) (hr : Room k callerA)
    (hY : ∀ (w : World) (h : Heap), YP w h → (K w.params).In h)
    (F : ∀ (w : World) (mg : Str → Option Value) (fa : Addr) (h : Heap), (K w.params).In h → h.Ns mainGlobals mg → mg d.name = some (.ref fa) →
      ∃ fd : FuncData, (∀ (s : Shared) (u : Value), BindsTo s fd ⟨[u], []⟩ [(x, u)]) ∧
        ∀ base : Heap, (K w.params).In base → base.Ns mainGlobals mg → FnOk l.prog w (K w.params) mg base (CX w) k fa fd [x] (sp w))
    (hsp : ∀ (w : World) (H : Hp) (a : Addr) (ns : List Int), ns.length ≤ n → Only H → SqL (K w.params) H a (ns.map V.int) → sp w [.ref a] H (fun v _ => v = .bl true) fun _ _ _ => False)
    (hCX : ∀ (w : World) (H : Hp) (s : Shared) (e : Value) (s' : Shared), CX w [] H s (fun _ _ _ => False) e s' → False) :
    PySem.W.WalkO q loose XP YP l.row.toRowW d [] (fun f vs => PySem.call f vs) := by
  refine Att.attach_call hn hdf fun w s₀ s₁ mg mb fa o pm cd doc a vs ns G Y ho hd hcd hmg hobj hints hlen hg => ?_
  have KX := hY w _ Y
  obtain ⟨fd, hb, hF⟩ := F w mg fa _ KX G.T.g hmg
  exact law_call KX G.T.g G.T.b G.T.builtins G.T.nolimit hg hobj hints (Nat.le_trans hlen hn2) hr hF hb (fun H hO hS => hsp w H a ns hlen hO hS) fun H e s' => hCX w H s₁ e s'
end L2


namespace L2
open PySem PySem.Spec PyProof.Rows

def defArgs (s : Stmt) : Arguments := match s with
  | .FunctionDef _ a _ _ _ _ _ _ _ _ => a
  | _ => { posonlyargs := [], args := [], vararg := none, kwonlyargs := [], kw_defaults := [], kwarg := none, defaults := [] }
def defBody (s : Stmt) : List Stmt := match s with
  | .FunctionDef _ _ b _ _ _ _ _ _ _ => b
  | _ => []
def defScope (s : Stmt) : Scope := match s with
  | .FunctionDef _ _ _ _ _ _ sc _ _ _ => sc
  | _ => { kind := .function, names := [], isGenerator := false, isCoroutine := false }

abbrev CX0 : CXT := fun _ _ _ _ _ _ => False
structure Fun (K : PySem.W.Frag) (x qual : Str) (st : Stmt) (f : Addr) (fd : FuncData) : Prop where
  ex : ∃ (oc : Value) (od : Option Addr) (kV doc pm : Value) (an : Option Addr) (cdv ct : Value) (osl : Array (Option Value)),
    fd = PySem.W.fnOf x qual (defArgs st) (defBody st) (defScope st) .none kV doc pm an cdv ct ∧ K.lookup f = some ⟨oc, od, .func fd, osl⟩ ∧ PySem.W.codeIn K cdv qual = true
  kp : PySem.W.keepIn K (.ref f) = true
section
variable {P : Program} {w : World} {K : PySem.W.Frag} {mg : Str → Option Value} {base : Heap}
/-- THE RULE for a def: its body as a term of rules, and the reading of that term -/
theorem Fun.ok {x qual : Str} {st : Stmt} {f : Addr} {fd : FuncData} {N ps : List Str} {k : Nat} {sp : Sp} (F : Fun K x qual st f fd) (S : FnScope N ps (defScope st)) (len : ∀ vs H Q E, sp vs H Q E → vs.length = ps.length)
    (hbody : ∀ (cdv : Value) (A : Around) (outer : List Env) (s : Shared) (H : Hp) (vs : List V) (Q : VK) (E : XK), Room k (A.deeper (envOfC qual (defScope st) s.heap.objs.size f cdv)) → sp vs H Q E →
      ∃ t, PSs (cxOf CX0 P w K mg base N qual (defScope st) f cdv A outer s H E).nox (defBody st) t ∧ t { nx := fun _ H' => Q .non H', rt := Q } (start N vs) H) : FnOk P w K mg base CX0 (k + 1) f fd ps sp := by
  obtain ⟨oc, od, kV, doc, pm, an, cdv, ct, osl, rfl, lk, hcd⟩ := F.ex
  refine fn_of lk hcd S len fun A outer s H vs Q E hr hsp => ?_
  obtain ⟨t, h, q⟩ := hbody cdv A outer s H vs Q E hr hsp
  exact ⟨t, h.nox, q⟩
/-- how its arguments bind (no defaults): h is «fun _ _ _ _ _ _ us hl => match us, hl with | [_, _], _ => rfl», one _ a parameter -/
theorem Fun.binds {x qual : Str} {st : Stmt} {f : Addr} {fd : FuncData} {ps : List Str} (F : Fun K x qual st f fd)
    (h : ∀ (kV doc pm : Value) (an : Option Addr) (cdv ct : Value) (us : List Value), us.length = ps.length → bindArgs (PySem.W.fnOf x qual (defArgs st) (defBody st) (defScope st) .none kV doc pm an cdv ct) ⟨us, []⟩ = pure (ps.zip us)) : Binds K fd ps [] := by
  obtain ⟨oc, od, kV, doc, pm, an, cdv, ct, osl, rfl, lk, hcd⟩ := F.ex
  exact .all (h kV doc pm an cdv ct)
theorem fun_mk {x qual : Str} {st : Stmt} {f : Addr} {oc : Value} {od an : Option Addr} {osl : Array (Option Value)} {kV doc pm cdv ct : Value} (l : K.lookup f = some ⟨oc, od, .func (PySem.W.fnOf x qual (defArgs st) (defBody st) (defScope st) .none kV doc pm an cdv ct), osl⟩)
    (c : PySem.W.codeIn K cdv qual = true) (k : PySem.W.keepIn K (.ref f) = true) : Fun K x qual st f (PySem.W.fnOf x qual (defArgs st) (defBody st) (defScope st) .none kV doc pm an cdv ct) := ⟨⟨oc, od, kV, doc, pm, an, cdv, ct, osl, rfl, l, c⟩, k⟩
end
section
variable {X : Cx}
theorem pv (i : Nat) {x : Str} {pos : Pos} (hN : X.N[i]? = some x := by rfl) (hv : Vis X.env.scope x := by first | exact Or.inl rfl | exact Or.inr (Or.inl rfl) | exact Or.inr (Or.inr rfl)) (hd : (x == ("__debug__" : Str)) = false := by decide)
    (hcd : (x == ("__classdict__" : Str)) = false := by decide) : PE X (.Name x pos) (tVar i) := pe_var hN hv hd hcd
end

/-- all that was tracked is as it was -/
def Same (H H' : Hp) : Prop := ∀ b o, H b = some o → H' b = some o
theorem Same.refl (H : Hp) : Same H H := fun _ _ h => h
theorem Same.trans {H H1 H2 : Hp} (a : Same H H1) (b : Same H1 H2) : Same H H2 := fun c o h => b c o (a c o h)
theorem Same.free {H H' : Hp} (e : Same H H') {l : Addr} (h : H' l = Option.none) : H l = Option.none := by
  cases q : H l with
  | none => rfl
  | some o =>
    rw [e l o q] at h
    cases h
theorem Same.seq {K : PySem.W.Frag} {H H' : Hp} {a : Addr} {xs : List V} (e : Same H H') (h : SqL K H a xs) : SqL K H' a xs := by
  rcases h with (h | ⟨o, h⟩) | h
  · exact .inl (.inl (e _ _ h))
  · exact .inl (.inr ⟨o, e _ _ h⟩)
  · exact .inr h

end L2
set_option Elab.async false
set_option linter.all false
set_option maxRecDepth 100000
set_option maxHeartbeats 4000000
namespace L2
open PySem PySem.Spec PyProof.Rows

def PTs (X : Cx) (ifs : List Expr) (t : TT) : Prop :=
  ∀ (pins : List (Addr × Obj)) (s : Shared) (σ : St) (H : Hp) (Q : Bool → Hp → Prop), Inv X pins σ H s → t σ H Q →
    wpAny (model X.prog X.w) X.A (forIn ifs true fun c r => if r = true then do let ok ← isTrue c X.env (eval c X.env); pure (ForInStep.yield ok) else pure (ForInStep.yield r)) (TP X pins σ Q) X.xe s
theorem Un.cellK {fs ex : List Addr} {H H' : Hp} {h h' : Heap} (u : Un fs ex H H' h h') {c : Addr} {v : Option Value} (x : h.IsCell c v) (n : H c = none) (he : c ∉ ex) : h'.IsCell c v := by
  obtain ⟨o, ho, hd⟩ := x
  obtain ⟨sl, q⟩ := u.any ho n he
  exact ⟨_, q, hd⟩

section
variable {X : Cx} {elt tg iter : Expr} {ifs : List Expr} {scope : Scope} {pos : Pos} {nm : List Str} {cl : List (Str × Addr)} {cap : List (Option Nat)} {wi : TI} {g : TG} {tc : TT} {te : TE}

end
end L2
set_option Elab.async false
set_option linter.all false
set_option maxRecDepth 100000
set_option maxHeartbeats 4000000
namespace L2
open PySem PySem.Spec PyProof.Rows

def tx (l : List Nat) : Str := ⟨l.toArray⟩
theorem tx_cps (l : List Nat) : (tx l).cps.toList = l := rfl
theorem tx_of (z : Str) : tx z.cps.toList = z := by cases z; rfl
theorem tx_len (l : List Nat) : (tx l).length = l.length := by show l.toArray.size = _; simp
theorem tx_app (a b : List Nat) : tx a ++ tx b = tx (a ++ b) := by
  show (⟨a.toArray ++ b.toArray⟩ : Str) = ⟨(a ++ b).toArray⟩
  simp
theorem tx_inj {a b : List Nat} : tx a = tx b ↔ a = b := ⟨fun h => by have := congrArg (fun z : Str => z.cps.toList) h; exact this, fun h => by rw [h]⟩
def Itv (vals : List V) : It := ⟨fun i _ => i < vals.length, fun i H x H' => H' = H ∧ vals[i]? = some x, fun i _ => vals.length ≤ i⟩
theorem turn_walks {P : Program} {w : World} {K : PySem.W.Frag} {tg : Expr} {it : Addr} {vals : List V} {Pr : Nat → Value → Prop} {S : Nat → Heap → Prop} {ty : String}
    (W : ∀ A : Around, A.handled = none → Walks P w A it [it] [it] vals.length Pr S) (hv : ∀ i v, i < vals.length → Pr i v → ∃ x, vals[i]? = some x ∧ RelV x v)
    (hob : ∀ i h, S i h → ∃ o vs, h.get? it = some o ∧ o.cls = .type ty ∧ o.data = .fields vs)
    (hty : ["enumerate", "zip", "dict_itemiterator", "dict_reverseitemiterator", "odict_iterator", "itertools.zip_longest", "itertools.pairwise"].contains ty = false)
    (hself : ∀ (A : Around) (i : Nat) (s : Shared) (Q : Value → Shared → Prop) (E : Value → Shared → Prop), S i s.heap → Q (.ref it) s → wpAny (model P w) A (pyIter (.ref it)) Q E s) :
    Turn P w K tg (Itv vals) [it] it (fun i h => i ≤ vals.length ∧ S i h) where
  mem := by simp
  obj := fun i h st b hb => by
    have e : b = it := by simpa using hb
    subst e
    obtain ⟨o, vs, e, c, d⟩ := hob i h st.2
    exact ⟨o, e, fun v z => by rw [d] at z; cases z⟩
  keep := fun i h h' st k => ⟨st.1, (W { depth := 0, handled := none, frames := none } rfl).frame i h h' st.2 k⟩
  item := by
    intro X hP hw hK hc i pins s σ H E I hf st hg
    subst hP hw hK
    obtain ⟨f0, f1, f2, f3, f4, f5⟩ := hf it (by simp)
    refine (W X.A (I.ok.hd hc)).item i s _ _ hg st.2 fun v h' tk hp st' kk => ?_
    have I1 : Inv X pins σ H { s with heap := h', toks := tk } := I.turned (fun b o hb e => kk b o (by simpa using hb) e) f0 f1 f3 f4 f5
    obtain ⟨x, hx, rx⟩ := hv i v hg hp
    obtain ⟨o, vs, e, c, d⟩ := hob _ _ st'
    exact ⟨v, rfl, go_of (s := { s with heap := h', toks := tk }) e c d hty ⟨x, H, I1, rx, ⟨rfl, hx⟩, ⟨hg, st'⟩, fun b hb => (hf b hb).1⟩⟩
  done := by
    intro X hP hw hK hc i pins s σ H E I hf st hg
    subst hP hw hK
    obtain ⟨f0, f1, f2, f3, f4, f5⟩ := hf it (by simp)
    have e : i = vals.length := Nat.le_antisymm st.1 hg
    refine (W X.A (I.ok.hd hc)).done s _ _ (e ▸ st.2) fun h' tk kk => ⟨rfl, I.turned (fun b o hb e => kk b o (by simpa using hb) e) f0 f1 f3 f4 f5⟩
  self := fun A i s Q E st h => hself A i s Q E st.2 h

section
variable {X : Cx} {tg : Expr}
/-- the signs of a text -/
def signsV (l : List Nat) : List V := l.map fun c => .str (tx [c])
def iStr (tl : TE) : TI := fun σ H R => tl σ H fun x H1 => ∃ l, x = .str (tx l) ∧ R (Itv (signsV l)) H1
theorem signAt_ok {l : List Nat} (i : Nat) (v : Value) (hi : i < (signsV l).length) (h : SignAt (tx l) i v) : ∃ x, (signsV l)[i]? = some x ∧ RelV x v := by
  obtain ⟨c, u, hc, e⟩ := h
  refine ⟨.str (tx [c]), ?_, u, e⟩
  unfold signsV
  rw [List.getElem?_map]
  have : l[i]? = some c := by simpa [tx] using hc
  rw [this]; rfl
theorem pi_str {l : Expr} {tl : TE} (hl : PE X l tl) : PI X tg l (iStr tl) := by
  intro pins s σ H R I h
  refine thn (hl pins s σ H _ I h) fun v s1 ⟨x, H1, I1, r1, q1⟩ => ?_
  obtain ⟨l, e, q⟩ := q1
  subst e
  obtain ⟨t, rfl⟩ := r1
  have hn : (tx l).cps.size = (signsV l).length := by unfold signsV; simp [tx]
  have fin : ∀ (ob : Obj) (S : Nat → Heap → Prop) (ty : String), (∀ A : Around, A.handled = none → Walks X.prog X.w A s1.heap.objs.size [s1.heap.objs.size] [s1.heap.objs.size] (tx l).cps.size (SignAt (tx l)) S) → S 0 (s1.heap.push ob) →
      (∀ i h, S i h → ∃ o vs, h.get? s1.heap.objs.size = some o ∧ o.cls = .type ty ∧ o.data = .fields vs) →
      ["enumerate", "zip", "dict_itemiterator", "dict_reverseitemiterator", "odict_iterator", "itertools.zip_longest", "itertools.pairwise"].contains ty = false →
      (∀ (A : Around) (i : Nat) (s : Shared) (Q : Value → Shared → Prop) (E : Value → Shared → Prop), S i s.heap → Q (.ref s1.heap.objs.size) s → wpAny (model X.prog X.w) A (pyIter (.ref s1.heap.objs.size)) Q E s) →
      PIE X pins σ tg R (.ref s1.heap.objs.size) { s1 with heap := s1.heap.push ob } := fun ob S ty W h0 hob hty hself => by
    rw [hn] at W
    refine ⟨s1.heap.objs.size, [s1.heap.objs.size], _, _, H1, rfl, I1.kept (t' := s1.toks) fun b o e => Heap.get?_push_of_some _ e, turn_walks W (fun i v hi hp => signAt_ok i v hi hp) hob hty hself, ⟨Nat.zero_le _, h0⟩, fun b hb => ?_, q⟩
    have e : b = s1.heap.objs.size := by simpa using hb
    subst e
    exact I1.fpOk (Nat.le_refl _) I1.fresh
  cases ha : (tx l).cps.all (· < 128)
  · exact wpAny_pyIter_wide ha (fin _ _ _ (fun A hA => Walks.strWide hA _ (tx l) t) ⟨_, Heap.get?_push_size _ rfl, rfl, rfl⟩ (fun i h st => by obtain ⟨o, a, b, c⟩ := st; exact ⟨o, _, a, b, c⟩) (by decide) fun A i s Q E st h => wpAny_pyIter_striter_wide st h)
  · exact wpAny_pyIter_ascii ha (fin _ _ _ (fun A hA => Walks.strAscii hA _ (tx l) t) ⟨_, Heap.get?_push_size _ rfl, rfl, rfl⟩ (fun i h st => by obtain ⟨o, a, b, c⟩ := st; exact ⟨o, _, a, b, c⟩) (by decide) fun A i s Q E st h => wpAny_pyIter_striter_ascii st h)

def cutN (l : List Nat) (lo hi : Option Int) : List Nat := (l.drop (HT.sIx l.length 0 lo)).take (HT.sIx l.length l.length hi - HT.sIx l.length 0 lo)
theorem cutN_length (l : List Nat) (lo hi : Option Int) : (cutN l lo hi).length ≤ l.length := by unfold cutN; rw [List.length_take, List.length_drop]; omega
theorem pick_range (l : List Nat) (i k : Nat) : ((List.range k).map fun (m : Nat) => i + m).filterMap (fun j => l[j]?) = (l.drop i).take k := by
  induction k generalizing i with
  | zero => simp
  | succ k ih =>
    rw [List.range_succ_eq_map, List.map_cons, List.map_map]
    have e : ((fun m => i + m) ∘ Nat.succ) = fun m => (i + 1) + m := by funext m; simp [Function.comp]; omega
    rw [e]
    by_cases h : i < l.length
    · rw [List.filterMap_cons]
      simp only [Nat.add_zero, List.getElem?_eq_getElem h]
      rw [ih (i + 1), List.drop_eq_getElem_cons h, List.take_succ_cons]
    · rw [List.filterMap_cons]
      have h' : l.length ≤ i := by omega
      simp only [Nat.add_zero, List.getElem?_eq_none h']
      rw [ih (i + 1), List.drop_eq_nil_of_le h', List.drop_eq_nil_of_le (by omega)]
      simp
theorem clipS (v : Int) (n d : Nat) : (if (1 : Int) > 0 then max 0 (min (if v < 0 then v + (n : Int) else v) (n : Int)) else max (-1) (min (if v < 0 then v + (n : Int) else v) ((n : Int) - 1))) = ((HT.sIx n d (some v) : Nat) : Int) := by
  rw [if_pos (by omega)]
  show _ = (((if v < 0 then (v + (n : Int)).toNat else min v.toNat n) : Nat) : Int)
  by_cases hv : v < 0
  · simp only [if_pos hv]; omega
  · simp only [if_neg hv]; omega
theorem strIdx (lo hi : Option Int) (n : Nat) : Builtin.Str.strSliceIndices lo hi 1 n = (List.range (HT.sIx n n hi - HT.sIx n 0 lo)).map fun (m : Nat) => HT.sIx n 0 lo + m := by
  have key : ∀ a b : Nat, sliceRange (a : Int) (b : Int) 1 = (List.range (b - a)).map fun (m : Nat) => a + m := fun a b => by
    unfold sliceRange
    have e : (if (1 : Int) > 0 then (if (a : Int) < (b : Int) then ((b : Int) - a + 1 - 1) / 1 else 0) else (if (a : Int) > b then ((a : Int) - b - 1 - 1) / (-1) else 0)).toNat = b - a := by
      rw [if_pos (by omega)]
      by_cases h : (a : Int) < b
      · rw [if_pos h]; omega
      · rw [if_neg h]; omega
    dsimp only
    rw [e]
    refine List.map_congr_left fun k _ => ?_
    omega
  unfold Builtin.Str.strSliceIndices
  rw [← key]
  dsimp only
  congr 1
  · cases lo with
    | none => rfl
    | some v => exact clipS v n 0
  · cases hi with
    | none => rfl
    | some v => exact clipS v n n
theorem slice_tx (l : List Nat) (lo hi : Option Int) : Txt.slice (tx l) lo hi = tx (cutN l lo hi) := by
  unfold Txt.slice
  rw [strIdx, tx_len]
  split
  · rename_i h
    simp only [beq_self_eq_true, Bool.true_and, beq_iff_eq, List.length_map, List.length_range] at h
    unfold cutN
    have h1 := HT.sIx_le l.length l.length (Nat.le_refl _) hi
    have h2 := HT.sIx_le l.length 0 (Nat.zero_le _) lo
    by_cases hz : l.length = 0
    · have : l = [] := List.eq_nil_of_length_eq_zero hz
      subst this; simp
    · have e0 : HT.sIx l.length 0 lo = 0 := by omega
      rw [e0, List.drop_zero, List.take_of_length_le (by omega)]
  · unfold cutN tx
    have : ∀ j : Nat, (l.toArray)[j]? = l[j]? := fun j => by simp
    simp only [this]
    rw [pick_range]

def rSlS : V → Option Int → Option Int → Hp → VK → Prop := fun x lo hi H Q => ∃ l, x = .str (tx l) ∧ l.length ≤ sizeLine ∧ Q (.str (tx (cutN l lo hi))) H
theorem part_of {v : Value} {o : Option Int} (p : IsPart v o) : ∃ q : Option (Int × Tok), v = partValue q ∧ q.map (·.1) = o := by
  cases p with
  | none => exact ⟨none, rfl, rfl⟩
  | int i t => exact ⟨some (i, t), rfl, rfl⟩
theorem sl_str : SlR X rSlS := by
  intro pins s σ H x v vl vu lo hi sl Q I rx hs pl pu h
  obtain ⟨l, e, hz, q⟩ := h
  subst e
  obtain ⟨t, rfl⟩ := rx
  obtain ⟨pl', rfl, rfl⟩ := part_of pl
  obtain ⟨pu', rfl, rfl⟩ := part_of pu
  refine ⟨"str", _, F.slot_str_getitem.lookup, typeIs_str _ _ _, ?_⟩
  refine wpAny_getItem_str_slice (l := pl') (u := pu') (st := none) hs rfl (post_val_or_str ?_)
  have e := slice_tx l (pl'.map (·.1)) (pu'.map (·.1))
  unfold Txt.slice at e
  show (if ((1 : Int) == 1 && (Builtin.Str.strSliceIndices (pl'.map (·.1)) (pu'.map (·.1)) 1 (tx l).length).length == (tx l).length) = true then tx l else ⟨((Builtin.Str.strSliceIndices (pl'.map (·.1)) (pu'.map (·.1)) 1 (tx l).length).filterMap ((tx l).cps[·]?)).toArray⟩ : Str).length ≤ sizeLine ∧
    ∀ t' k, EP X pins σ Q (.str (if ((1 : Int) == 1 && (Builtin.Str.strSliceIndices (pl'.map (·.1)) (pu'.map (·.1)) 1 (tx l).length).length == (tx l).length) = true then tx l else ⟨((Builtin.Str.strSliceIndices (pl'.map (·.1)) (pu'.map (·.1)) 1 (tx l).length).filterMap ((tx l).cps[·]?)).toArray⟩ : Str) t') { s with toks := k }
  rw [e, tx_len]
  exact ⟨Nat.le_trans (cutN_length l _ _) hz, fun t' k => ⟨.str _, H, I.tok k, ⟨t', rfl⟩, q⟩⟩

theorem in_one (c : Nat) (l : List Nat) : (!(Builtin.Str.occurrences (tx l) (tx [c]) 0 (tx l).length 1).isEmpty) = decide (c ∈ l) := StrLaws.found_one (tx l) c
def rInS (neg : Bool) : R2 := fun x y H Q => ∃ c l, x = .str (tx [c]) ∧ y = .str (tx l) ∧ Q (.bl (if neg then !decide (c ∈ l) else decide (c ∈ l))) H
theorem op_in_one : OpR X (compareOp .In) (rInS false) := by
  intro pins s σ H x y v u Q I rx ry h
  obtain ⟨c, l, rfl, rfl, q⟩ := h
  exact op_in_str pins s σ H _ _ v u Q I rx ry ⟨_, _, rfl, rfl, by rw [in_one]; exact q⟩
theorem op_notin_one : OpR X (compareOp .NotIn) (rInS true) := by
  intro pins s σ H x y v u Q I rx ry h
  obtain ⟨c, l, rfl, rfl, q⟩ := h
  exact op_notin_str pins s σ H _ _ v u Q I rx ry ⟨_, _, rfl, rfl, by rw [in_one]; exact q⟩
theorem op_le_one : OpR X (compareOp .LtE) (fun x y H Q => ∃ c d, x = .str (tx [c]) ∧ y = .str (tx [d]) ∧ Q (.bl (decide (c ≤ d))) H) := by
  intro pins s σ H x y v u Q I rx ry h
  obtain ⟨c, d, rfl, rfl, q⟩ := h
  obtain ⟨t, rfl⟩ := rx
  obtain ⟨t', rfl⟩ := ry
  refine PySem.P.le_str ⟨.bl _, H, I, ?_, q⟩
  show Value.bool _ = Value.bool _
  congr 1
  show (!decide ([d] < [c])) = decide (c ≤ d)
  by_cases hcd : c ≤ d
  · rw [decide_eq_true hcd, decide_eq_false]; rfl
    intro z
    cases z with
    | rel z => omega
    | cons z => cases z
  · rw [decide_eq_false hcd, decide_eq_true]; rfl
    exact .rel (by omega)
theorem strsAre_of : ∀ {ys : List (List Nat)} {its : List Value}, Vals (ys.map fun l => V.str (tx l)) its → StrsAre its (ys.map tx)
  | [], _, r => by cases r; exact .nil
  | y :: ys, _, r => by
    cases r with
    | cons r rr =>
      obtain ⟨t, rfl⟩ := r
      exact .cons _ _ (strsAre_of rr)
theorem of_strsAre : ∀ {its : List Value} {ss : List Str}, StrsAre its ss → Vals (ss.map fun z => V.str z) its
  | _, _, .nil => .nil
  | _, _, .cons y t r => .cons ⟨t, rfl⟩ (of_strsAre r)
/-- parts with a text between -/
def joinN (sep : List Nat) : List (List Nat) → List Nat
  | [] => []
  | [x] => x
  | x :: y :: r => x ++ sep ++ joinN sep (y :: r)
theorem join_tx (sep : List Nat) : ∀ ys : List (List Nat), Txt.join (tx sep) (ys.map tx) = tx (joinN sep ys) := fun ys => by
  show Builtin.Str.glued (tx sep) (ys.map tx) = _
  rw [StrLaws.glued_eq_join]
  induction ys with
  | nil => rfl
  | cons x r ih =>
    cases r with
    | nil => rfl
    | cons y r =>
      show tx x ++ tx sep ++ Str.join (tx sep) ((y :: r).map tx) = tx (x ++ sep ++ joinN sep (y :: r))
      rw [ih, tx_app, tx_app]
def rJoin (K : PySem.W.Frag) : V → List V → Hp → VK → Prop := fun x vs H Q => ∃ (sep : List Nat) (a : Addr) (ys : List (List Nat)), x = .str (tx sep) ∧ vs = [.ref a] ∧ SqL K H a (ys.map fun l => V.str (tx l)) ∧ (ys.map List.length).sum + ys.length * sep.length ≤ 16777216 ∧ Q (.str (tx (joinN sep ys))) H
theorem mt_join : MtR X "str.join" (rJoin X.K) := by
  intro pins s σ H x vs v us Q I rx rv h
  obtain ⟨sep, a, ys, rfl, rfl, hS, hz, q⟩ := h
  obtain ⟨t, rfl⟩ := rx
  obtain ⟨u, rfl, ru⟩ := rv.one
  cases ru
  obtain ⟨its, r, p, _⟩ := I.list hS
  refine join_list p.isList (strsAre_of (by simpa using r)) ?_ fun t' k => ?_
  · rw [List.map_map, tx_len, List.length_map]
    have e : ((fun z : Str => z.length) ∘ tx) = List.length := by funext l; exact tx_len l
    rw [e]; exact hz
  · rw [join_tx]
    exact ⟨.str _, H, I.tok k, ⟨t', rfl⟩, q⟩
end

end L2
set_option Elab.async false
set_option linter.all false
set_option maxRecDepth 100000
set_option maxHeartbeats 4000000
namespace L2
open PySem PySem.Spec PyProof.Rows

inductive D where
  | non | bl (b : Bool) | int (i : Int) | str (l : List Nat) | tnil | tcons (d r : D)
  deriving DecidableEq
def D.tup : List D → D
  | [] => .tnil
  | d :: r => .tcons d (D.tup r)
mutual
def Dp (K : PySem.W.Frag) (H : Hp) : D → V → Prop
  | .non, v => v = .non
  | .bl b, v => v = .bl b
  | .int i, v => v = .int i
  | .str l, v => v = .str (tx l)
  | .tnil, v => ∃ p, v = .ref p ∧ SqT K H p []
  | .tcons d r, v => ∃ p x xs, v = .ref p ∧ SqT K H p (x :: xs) ∧ Dp K H d x ∧ DpL K H r xs
def DpL (K : PySem.W.Frag) (H : Hp) : D → List V → Prop
  | .tnil, xs => xs = []
  | .tcons d r, xs => ∃ x ys, xs = x :: ys ∧ Dp K H d x ∧ DpL K H r ys
  | .non, _ => False
  | .bl _, _ => False
  | .int _, _ => False
  | .str _, _ => False
end
/-- tuples stay -/
def Ext (K : PySem.W.Frag) (H H' : Hp) : Prop := ∀ p xs, SqT K H p xs → SqT K H' p xs
mutual
theorem Dp.mono {K : PySem.W.Frag} {H H' : Hp} (e : Ext K H H') : ∀ {d : D} {v : V}, Dp K H d v → Dp K H' d v
  | .non, _, h => by unfold Dp at h ⊢; exact h
  | .bl _, _, h => by unfold Dp at h ⊢; exact h
  | .int _, _, h => by unfold Dp at h ⊢; exact h
  | .str _, _, h => by unfold Dp at h ⊢; exact h
  | .tnil, _, h => by unfold Dp at h ⊢; obtain ⟨p, e1, e2⟩ := h; exact ⟨p, e1, e _ _ e2⟩
  | .tcons d r, _, h => by unfold Dp at h ⊢; obtain ⟨p, x, xs, e1, e2, h1, h2⟩ := h; exact ⟨p, x, xs, e1, e _ _ e2, Dp.mono e h1, DpL.mono e h2⟩
theorem DpL.mono {K : PySem.W.Frag} {H H' : Hp} (e : Ext K H H') : ∀ {d : D} {v : List V}, DpL K H d v → DpL K H' d v
  | .non, _, h => by unfold DpL at h; exact h.elim
  | .bl _, _, h => by unfold DpL at h; exact h.elim
  | .int _, _, h => by unfold DpL at h; exact h.elim
  | .str _, _, h => by unfold DpL at h; exact h.elim
  | .tnil, _, h => by unfold DpL at h ⊢; exact h
  | .tcons d r, _, h => by unfold DpL at h ⊢; obtain ⟨x, xs, e1, h1, h2⟩ := h; exact ⟨x, xs, e1, Dp.mono e h1, DpL.mono e h2⟩
end
/-- a row of values -/
abbrev Dps (K : PySem.W.Frag) (H : Hp) : List D → List V → Prop := Paired fun d v => Dp K H d v
theorem Dps.mono {K : PySem.W.Frag} {H H' : Hp} (e : Ext K H H') : ∀ {ds : List D} {vs : List V}, Dps K H ds vs → Dps K H' ds vs
  | _, _, .nil => .nil
  | _, _, .cons h t => .cons (h.mono e) (Dps.mono e t)
theorem DpL.of {K : PySem.W.Frag} {H : Hp} : ∀ {ds : List D} {vs : List V}, Dps K H ds vs → DpL K H (D.tup ds) vs
  | _, _, .nil => by unfold D.tup DpL; rfl
  | _, _, .cons h t => by unfold D.tup DpL; exact ⟨_, _, rfl, h, DpL.of t⟩
theorem DpL.to {K : PySem.W.Frag} {H : Hp} : ∀ {ds : List D} {vs : List V}, DpL K H (D.tup ds) vs → Dps K H ds vs
  | [], _, h => by unfold D.tup DpL at h; subst h; exact .nil
  | d :: ds, _, h => by unfold D.tup DpL at h; obtain ⟨x, xs, rfl, h1, h2⟩ := h; exact .cons h1 (DpL.to h2)
/-- a tuple's value -/
theorem Dp.tupI {K : PySem.W.Frag} {H : Hp} {p : Addr} {vs : List V} {ds : List D} (h : SqT K H p vs) (hd : Dps K H ds vs) : Dp K H (D.tup ds) (.ref p) := by
  cases hd with
  | nil => unfold D.tup Dp; exact ⟨p, rfl, h⟩
  | cons a t => unfold D.tup Dp; exact ⟨p, _, _, rfl, h, a, DpL.of t⟩
theorem Dp.tupE {K : PySem.W.Frag} {H : Hp} {v : V} {ds : List D} (h : Dp K H (D.tup ds) v) : ∃ p vs, v = .ref p ∧ SqT K H p vs ∧ Dps K H ds vs := by
  cases ds with
  | nil => unfold D.tup Dp at h; obtain ⟨p, e, q⟩ := h; exact ⟨p, [], e, q, .nil⟩
  | cons d r => unfold D.tup Dp at h; obtain ⟨p, x, xs, e, q, h1, h2⟩ := h; exact ⟨p, _, e, q, .cons h1 (DpL.to h2)⟩

theorem SqT.same {K : PySem.W.Frag} {H H' : Hp} (e : Same H H') : Ext K H H' := fun p xs h => by
  rcases h with (h | ⟨o, h⟩) | h
  · exact .inl (.inl (e _ _ h))
  · exact .inl (.inr ⟨o, e _ _ h⟩)
  · exact .inr h
theorem same_new {H : Hp} {p : Addr} (h : H p = none) (o : HO) : Same H (upd H p o) := fun b u q => by rw [upd_ne (ne_of_none q h)]; exact q
/-- all but l is as it was -/
def But (l : Addr) (H H' : Hp) : Prop := ∀ b o, b ≠ l → H b = some o → H' b = some o
theorem But.refl {l : Addr} (H : Hp) : But l H H := fun _ _ _ h => h
theorem But.trans {l : Addr} {H H1 H2 : Hp} (a : But l H H1) (b : But l H1 H2) : But l H H2 := fun c o h q => b c o h (a c o h q)
theorem Same.but {l : Addr} {H H' : Hp} (a : Same H H') : But l H H' := fun b o _ q => a b o q
theorem but_upd {l : Addr} {H : Hp} {o : HO} : But l H (upd H l o) := fun b u h q => by rw [upd_ne h]; exact q
theorem SqT.but {K : PySem.W.Frag} {l : Addr} {xs : List V} {H H' : Hp} (e : But l H H') (hl : H l = some (.lst xs)) : Ext K H H' := fun p ys h => by
  have hne : ∀ {o : HO}, H p = some o → (∀ zs, o ≠ .lst zs) → p ≠ l := fun {o} q hn z => by subst z; rw [hl] at q; cases q; exact hn _ rfl
  rcases h with (h | ⟨o, h⟩) | h
  · exact .inl (.inl (e _ _ (hne h (fun _ z => by cases z)) h))
  · exact .inl (.inr ⟨o, e _ _ (hne h (fun _ z => by cases z)) h⟩)
  · exact .inr h
theorem Ext.refl {K : PySem.W.Frag} {H : Hp} : Ext K H H := fun _ _ h => h
theorem Ext.trans {K : PySem.W.Frag} {H H1 H2 : Hp} (a : Ext K H H1) (b : Ext K H1 H2) : Ext K H H2 := fun p xs h => b p xs (a p xs h)
theorem SqT.new {K : PySem.W.Frag} {H : Hp} {p : Addr} {xs : List V} : SqT K (upd H p (.tup xs)) p xs := SqT.of upd_same
/-- a list that is read stays, where it is not the one that changes -/
theorem SqL.but {K : PySem.W.Frag} {l a : Addr} {xs : List V} {H H' : Hp} (e : But l H H') (hne : a ≠ l) (h : SqL K H a xs) : SqL K H' a xs := by
  rcases h with (h | ⟨o, h⟩) | h
  · exact .inl (.inl (e _ _ hne h))
  · exact .inl (.inr ⟨o, e _ _ hne h⟩)
  · exact .inr h

structure Has (P : Program) (w : World) (K : PySem.W.Frag) (mg : Str → Option Value) (base : Heap) (k : Nat) (x : Str) (ps : List Str) (sp : Sp) : Prop where
  ex : ∃ (f : Addr) (fd : FuncData), mg x = some (.ref f) ∧ PySem.W.keepIn K (.ref f) = true ∧ Binds K fd ps [] ∧ FnOk P w K mg base CX0 k f fd ps sp
theorem Has.mono {P : Program} {w : World} {K : PySem.W.Frag} {mg : Str → Option Value} {base : Heap} {j k : Nat} {x : Str} {ps : List Str} {sp : Sp} (h : Has P w K mg base j x ps sp) (hj : j ≤ k) : Has P w K mg base k x ps sp := by
  obtain ⟨f, fd, a, b, c, d⟩ := h.ex
  exact ⟨f, fd, a, b, c, d.mono hj⟩
end L2

namespace L2
open PySem PySem.Spec PyProof.Rows
/-- a constant of the module -/
theorem pe_gc {X : Cx} {x : Str} {v : V} {pos : Pos} (h : ∃ u, X.mg x = some u ∧ RelV v u) (hg : Gl X x := by rfl) (hd : (x == ("__debug__" : Str)) = false := by decide) : PE X (.Name x pos) (tC v) := by
  obtain ⟨u, a, b⟩ := h
  exact pe_glob hg a b hd
end L2

namespace L2
open PySem PySem.Spec PyProof.Rows
section
variable {X : Cx} {o e : Expr} {es : List Expr} {to : TE} {t : TA} {name : Str} {apos cpos : Pos} {id : String} {r : V → List V → Hp → VK → Prop}
def tML (r : V → List V → Hp → VK → Prop) (to : TE) (t : TA) : TE := fun σ H Q => to σ H fun x H1 => (∃ l ys, x = .ref l ∧ H1 l = some (.lst ys)) ∧ t σ H1 fun xs H2 => r x xs H2 Q
def tMS (r : V → List V → Hp → VK → Prop) (to : TE) (t : TA) : TE := fun σ H Q => to σ H fun x H1 => (∃ l, x = .str (tx l)) ∧ t σ H1 fun xs H2 => r x xs H2 Q
def tML0 (r : V → List V → Hp → VK → Prop) (to : TE) : TE := fun σ H Q => to σ H fun x H1 => (∃ l ys, x = .ref l ∧ H1 l = some (.lst ys)) ∧ r x [] H1 Q
theorem tyV_list {K : PySem.W.Frag} {x : V} {H : Hp} (h : ∃ l ys, x = .ref l ∧ H l = some (.lst ys)) : tyV K "list" x H := by
  obtain ⟨l, ys, rfl, h⟩ := h
  exact .inl ⟨rfl, _, .of h⟩
theorem tyV_str {K : PySem.W.Frag} {x : V} {H : Hp} (h : ∃ l, x = .str (tx l)) : tyV K "str" x H := by
  obtain ⟨l, rfl⟩ := h
  exact rfl
theorem pe_bmX {T : String} {ty : V → Hp → Prop} (hty' : ∀ x H, ty x H → tyV X.K T x H) (pa : PlainAttrs T) (slot : Slot T name id) (hty : typeOf (.builtin id) = pure (.type "method_descriptor")) (hm : MtR X id r) (ho : PE X o to) (ha : PA X (e :: es) t)
    (hbase : attributeBase o name X.env (eval o X.env) = eval o X.env)
    (hfew : ((backTo cpos (starEach (e :: es) X.env)).all (fun x => !x.1) && (backToKw cpos (keywordEach [] X.env)).all (fun x => x.1.isSome)
      && decide ((e :: es).length + ([] : List Keyword).length + (if ([] : List Keyword).isEmpty then 0 else 1) < 30)) = true)
    (hline : (apos.endLine == cpos.line) = true) (hs : starEach (e :: es) X.env = (false, eval e X.env) :: starEach es X.env) (hplain : (backTo cpos (starEach es X.env)).any (·.1) = false) :
    PE X (.Call (.Attribute o name apos) (e :: es) [] cpos) (fun σ H Q => to σ H fun x H1 => ty x H1 ∧ t σ H1 fun xs H2 => r x xs H2 Q) := by
  intro pins s σ H Q I h
  refine wpAny_Call_method_late hbase hfew hline rfl (thn (ho pins s σ H _ I h) fun v s1 ⟨x, H1, I1, r1, ty, q1⟩ => ?_)
  obtain ⟨h1, h2⟩ := tyV_is I1 r1 (hty' _ _ ty)
  refine ⟨T, id, pa, slot, hty, h1, h2, ?_⟩
  have hA := ha cpos pins s1 σ H1 _ I1 q1
  rw [hs] at hA ⊢
  refine Calls.callWith_builtin (by show (false || (backTo cpos (starEach es X.env)).any (·.1)) = false; rw [hplain] <;> rfl) (Calls.evalArgs_plain ?_)
  exact thn hA fun us s2 ⟨vs, H2, I2, r2, q2⟩ => hm pins s2 σ H2 x vs v us Q I2 r1 r2 q2
theorem pe_ml (slot : Slot "list" name id) (hty : typeOf (.builtin id) = pure (.type "method_descriptor")) (hm : MtR X id r) (ho : PE X o to) (ha : PA X (e :: es) t)
    (hbase : attributeBase o name X.env (eval o X.env) = eval o X.env := by rfl)
    (hfew : ((backTo cpos (starEach (e :: es) X.env)).all (fun x => !x.1) && (backToKw cpos (keywordEach [] X.env)).all (fun x => x.1.isSome)
      && decide ((e :: es).length + ([] : List Keyword).length + (if ([] : List Keyword).isEmpty then 0 else 1) < 30)) = true := by rfl)
    (hline : (apos.endLine == cpos.line) = true := by rfl) (hs : starEach (e :: es) X.env = (false, eval e X.env) :: starEach es X.env := by rfl) (hplain : (backTo cpos (starEach es X.env)).any (·.1) = false := by rfl) :
    PE X (.Call (.Attribute o name apos) (e :: es) [] cpos) (tML r to t) := pe_bmX (ty := fun x H1 => ∃ l ys, x = .ref l ∧ H1 l = some (.lst ys)) (fun _ _ h => tyV_list h) F.plainAttrs_list slot hty hm ho ha hbase hfew hline hs hplain
theorem pe_ms (slot : Slot "str" name id) (hty : typeOf (.builtin id) = pure (.type "method_descriptor")) (hm : MtR X id r) (ho : PE X o to) (ha : PA X (e :: es) t)
    (hbase : attributeBase o name X.env (eval o X.env) = eval o X.env := by rfl)
    (hfew : ((backTo cpos (starEach (e :: es) X.env)).all (fun x => !x.1) && (backToKw cpos (keywordEach [] X.env)).all (fun x => x.1.isSome)
      && decide ((e :: es).length + ([] : List Keyword).length + (if ([] : List Keyword).isEmpty then 0 else 1) < 30)) = true := by rfl)
    (hline : (apos.endLine == cpos.line) = true := by rfl) (hs : starEach (e :: es) X.env = (false, eval e X.env) :: starEach es X.env := by rfl) (hplain : (backTo cpos (starEach es X.env)).any (·.1) = false := by rfl) :
    PE X (.Call (.Attribute o name apos) (e :: es) [] cpos) (tMS r to t) := pe_bmX (ty := fun x H1 => ∃ l, x = .str (tx l)) (fun _ _ h => tyV_str h) F.plainAttrs_str slot hty hm ho ha hbase hfew hline hs hplain
theorem pe_ml0 (slot : Slot "list" name id) (hty : typeOf (.builtin id) = pure (.type "method_descriptor")) (hm : MtR X id r) (ho : PE X o to)
    (hbase : attributeBase o name X.env (eval o X.env) = eval o X.env := by rfl) (hline : (apos.endLine == cpos.line) = true := by rfl) : PE X (.Call (.Attribute o name apos) [] [] cpos) (tML0 r to) := by
  intro pins s σ H Q I h
  refine wpAny_Call_method0_late hbase hline (thn (ho pins s σ H _ I h) fun v s1 ⟨x, H1, I1, r1, ty, q1⟩ => ?_)
  obtain ⟨h1, h2⟩ := tyV_is I1 r1 (tyV_list ty)
  exact ⟨"list", id, F.plainAttrs_list, slot, hty, h1, h2, Calls.callWith_builtin rfl (PySem.evalArgs_none (hm pins s1 σ H1 x [] v [] Q I1 r1 .nil q1))⟩
end
end L2

namespace L2
open PySem PySem.Spec PyProof.Rows
end L2

namespace L2
open PySem PySem.Spec PyProof.Rows
section
variable {X : Cx} {e : Expr} {es : List Expr} {te : TE} {t : TA} {pos : Pos}
def tTupF (t : TA) : TE := fun σ H Q => t σ H fun xs H1 => xs.length ≤ sizeLine ∧ ∀ p H2, H1 p = none → H2 = upd H1 p (.tup xs) → Q (.ref p) H2
def tLstF (t : TA) : TE := fun σ H Q => t σ H fun xs H1 => xs.length ≤ sizeLine ∧ ∀ p H2, H1 p = none → H2 = upd H1 p (.lst xs) → Q (.ref p) H2
theorem pe_tupF {x1} (h : PA X es t) : PE X (.Tuple es x1 pos) (tTupF t) := by
  intro pins s σ H Q I hq
  refine wpAny_Tuple_spliced (thn (h pos pins s σ H _ I hq) fun us s1 ⟨xs, H1, I1, r, z, q⟩ => ⟨by rw [← r.length]; exact z, ?_⟩)
  have hf : H1 s1.heap.objs.size = none := I1.hok.fresh (Nat.le_refl _)
  refine ⟨.ref s1.heap.objs.size, upd H1 s1.heap.objs.size (.tup xs), I1.laid (t' := s1.toks) (fun b u e => Heap.get?_push_of_some _ e) (Nat.le_refl _) ?_, rfl, q _ _ hf rfl⟩
  exact ⟨z, us, r, ⟨_, Heap.get?_push_size _ rfl, rfl, _, rfl⟩⟩
theorem pe_lstF (h : PA X es t) : PE X (.List es pos) (tLstF t) := by
  intro pins s σ H Q I hq
  refine wpAny_List_spliced (thn (h pos pins s σ H _ I hq) fun us s1 ⟨xs, H1, I1, r, z, q⟩ => ⟨by rw [← r.length]; exact z, ?_⟩)
  have hf : H1 s1.heap.objs.size = none := I1.hok.fresh (Nat.le_refl _)
  refine ⟨.ref s1.heap.objs.size, upd H1 s1.heap.objs.size (.lst xs), I1.laid (t' := s1.toks) (fun b u e => Heap.get?_push_of_some _ e) (Nat.le_refl _) ?_, rfl, q _ _ hf rfl⟩
  exact ⟨z, us, 0, r, Heap.get?_push_size _ rfl⟩
theorem MtR.imp {id : String} {r r' : V → List V → Hp → VK → Prop} (h : MtR X id r) (i : ∀ x xs H Q, r' x xs H Q → r x xs H Q) : MtR X id r' := fun pins s σ H x xs v us Q I rx rv q => h pins s σ H x xs v us Q I rx rv (i _ _ _ _ q)
theorem CallR.imp {f : Value} {r r' : List V → Hp → VK → Prop} (h : CallR X f r) (i : ∀ xs H Q, r' xs H Q → r xs H Q) : CallR X f r' := fun pins s σ H xs us Q I rv q => h pins s σ H xs us Q I rv (i _ _ _ q)
theorem OpR.imp {f : Value → Value → Sem Value} {r r' : R2} (h : OpR X f r) (i : ∀ x y H Q, r' x y H Q → r x y H Q) : OpR X f r' := fun pins s σ H x y v u Q I rx ry q => h pins s σ H x y v u Q I rx ry (i _ _ _ _ q)
theorem SlR.imp {r r' : V → Option Int → Option Int → Hp → VK → Prop} (h : SlR X r) (i : ∀ x lo hi H Q, r' x lo hi H Q → r x lo hi H Q) : SlR X r' := fun pins s σ H x v vl vu lo hi sl Q I rx hs pl pu q => h pins s σ H x v vl vu lo hi sl Q I rx hs pl pu (i _ _ _ _ _ q)
def rAppendF : V → List V → Hp → VK → Prop := fun x vs H Q => ∃ l xs y, x = .ref l ∧ vs = [y] ∧ H l = some (.lst xs) ∧ xs.length < sizeLine ∧ ∀ H2, H2 = upd H l (.lst (xs ++ [y])) → Q .non H2
theorem mt_appendF : MtR X "list.append" rAppendF := MtR.imp (r := rAppend) mt_append fun _ _ _ _ ⟨l, xs, y, a, b, c, d, q⟩ => ⟨l, xs, y, a, b, c, d, q _ rfl⟩
def rPopF : V → List V → Hp → VK → Prop := fun x vs H Q => ∃ l xs y, x = .ref l ∧ vs = [] ∧ H l = some (.lst (xs ++ [y])) ∧ ∀ H2, H2 = upd H l (.lst xs) → Q y H2
theorem mt_popF : MtR X "list.pop" rPopF := MtR.imp (r := rPop) mt_pop fun _ _ _ _ ⟨l, xs, y, a, b, c, q⟩ => ⟨l, xs ++ [y], y, a, b, c, by simp, by rw [List.dropLast_concat]; exact q _ rfl⟩
def rSetLF : V → V → V → Hp → (Hp → Prop) → Prop := fun o i v H Q => ∃ p xs k j, o = .ref p ∧ i = .int k ∧ H p = some (.lst xs) ∧ ixN xs.length k = some j ∧ ∀ H2, H2 = upd H p (.lst (xs.set j v)) → Q H2
theorem set_listF : PSet X rSetLF := fun pins s σ H o i v ov iv u Q I r1 r2 r3 q => by
  obtain ⟨p, xs, k, j, a, b, c, d, q⟩ := q
  exact set_list pins s σ H o i v ov iv u Q I r1 r2 r3 ⟨p, xs, k, j, a, b, c, d, q _ rfl⟩
def rCatF : R2 := fun x y H Q => ∃ l b xs zs, x = .ref l ∧ y = .ref b ∧ H l = some (.lst xs) ∧ H b = some (.lst zs) ∧ xs.length + zs.length ≤ sizeLine ∧ ∀ p H2, H p = none → H2 = upd H p (.lst (xs ++ zs)) → Q (.ref p) H2
theorem op_catF : OpR X (binaryOp .Add) rCatF := OpR.imp op_cat fun _ _ _ _ ⟨l, b, xs, zs, h1, h2, h3, h4, h5, q⟩ => ⟨l, b, xs, zs, h1, h2, h3, h4, h5, fun p hp => q p _ hp rfl⟩
end
end L2

namespace L2
open PySem PySem.Spec PyProof.Rows
end L2

namespace L2
open PySem PySem.Spec PyProof.Rows
def knownT (T : String) : Prop := T = "tuple" ∨ T = "bool" ∨ T = "int" ∨ T = "str"
theorem DpL.ex {K : PySem.W.Frag} {H : Hp} : ∀ {d : D} {xs : List V}, DpL K H d xs → ∃ ds, d = D.tup ds ∧ Dps K H ds xs
  | .tnil, xs, h => by unfold DpL at h; subst h; exact ⟨[], rfl, .nil⟩
  | .tcons d r, xs, h => by
    unfold DpL at h
    obtain ⟨x, ys, rfl, h1, h2⟩ := h
    obtain ⟨ds, rfl, hd⟩ := DpL.ex h2
    exact ⟨d :: ds, rfl, .cons h1 hd⟩
  | .non, _, h => by unfold DpL at h; exact h.elim
  | .bl _, _, h => by unfold DpL at h; exact h.elim
  | .int _, _, h => by unfold DpL at h; exact h.elim
  | .str _, _, h => by unfold DpL at h; exact h.elim
def D.dep : D → Nat
  | .tcons d r => max (d.dep + 1) r.dep
  | _ => 1
theorem Dps.get {K : PySem.W.Frag} {H : Hp} : ∀ {ds : List D} {vs : List V} {i : Nat} {d : D}, Dps K H ds vs → ds[i]? = some d → ∃ v, vs[i]? = some v ∧ Dp K H d v
  | _, _, _, _, .nil, e => by simp at e
  | _, _, 0, _, .cons r _, e => by simp at e; subst e; exact ⟨_, rfl, r⟩
  | _, _, i + 1, d, .cons _ t, e => by
    obtain ⟨u, h1, h2⟩ := Dps.get (i := i) (d := d) t (by simpa using e)
    exact ⟨u, by simpa using h1, h2⟩
end L2

namespace L2
def D.size : D → Nat
  | .tcons d r => d.size + r.size + 1
  | _ => 1
end L2

namespace L2
open PySem PySem.Spec PyProof.Rows
inductive CS : List Expr → List Str → Prop where
  | nil : CS [] []
  | cons {x : Str} {j : Nat} {p : Pos} {r : List Expr} {zs : List Str} : CS r zs → CS (.Constant (.str x) j p :: r) (x :: zs)
def tStrs (zs : List Str) : TA := fun _ H Q => Q (zs.map V.str) H
theorem pa_strs {X : Cx} {es : List Expr} {zs : List Str} (h : CS es zs) : PA X es (tStrs zs) := by
  induction h with
  | nil => exact pa_nil
  | @cons x j p r zs _ ih =>
    intro pos pins s σ H Q I hq
    exact pa_cons (X := X) (pe_str (X := X) (x := x) (j := j) (pos := p)) ih (by rfl) pos pins s σ H Q I hq
end L2
set_option Elab.async false
set_option linter.all false
set_option maxRecDepth 100000
set_option maxHeartbeats 4000000
namespace L2
open PySem PySem.Spec PyProof.Rows
/-- rules at one operation, wrapped -/
structure ROp (X : Cx) (f : Value → Value → Sem Value) (r : R2) : Prop where
  h : OpR X f r
structure RMt (X : Cx) (id : String) (r : V → List V → Hp → VK → Prop) : Prop where
  h : MtR X id r
section
variable {X : Cx} {a b c e o : Expr} {es : List Expr} {ta tb tc te to : TE} {t u : TA} {pos p p2 apos cpos : Pos} {x name : Str} {j : Nat} {tA tB' : TT} {rest : List Expr}
variable {st : Stmt} {sr : List Stmt} {ts us : TS} {g : TG}
variable {tg : Expr}
end
section
variable {X : Cx} {tg iter c : Expr} {body : List Stmt} {wi : TI} {g : TG} {tb : TS} {pos : Pos} {tA : TT}
end
end L2

namespace L2
open PySem PySem.Spec PyProof.Rows
end L2

namespace L2
open PySem PySem.Spec PyProof.Rows
end L2
set_option Elab.async false
set_option linter.all false
set_option maxRecDepth 100000
set_option maxHeartbeats 4000000
namespace L2
open PySem PySem.Spec PyProof.Rows
end L2

namespace L2
open PySem PySem.Spec PyProof.Rows
section
variable {prog : Program} {w : World} {A : Around} {E : Value → Shared → Prop} {s : Shared}
end
end L2

namespace L2
open PySem PySem.Spec PyProof.Rows
open AutoSeq1 (wpAny_loadPart')
end L2

namespace L2
open PySem PySem.Spec PyProof.Rows
open AutoSeq1 (wpAny_loadPart')
section
variable {prog : Program} {w : World} {A : Around} {E : Value → Shared → Prop} {s : Shared}
end
section
variable {X : Cx}
end
end L2

namespace L2
open PySem PySem.Spec PyProof.Rows
section
variable {cap : List (Option Nat)} {g : TG} {tc : TT} {te : TE} {σ : St} {H1 : Hp} {Q : VK} {n : Nat}
end
end L2

namespace L2
open PySem PySem.Spec PyProof.Rows
end L2
set_option Elab.async false
set_option linter.all false
set_option maxRecDepth 100000
set_option maxHeartbeats 4000000
namespace L2
open PySem PySem.Spec PyProof.Rows
def byTx (w : World) : Bool := w.params.followText "set-order"
def TabOk (w : World) (n : Nat) (t : SetTable) : Prop := (byTx w = true ∨ t.led = true) ∧ (n = 0 ∨ t.plain = false)
section
variable {prog : Program} {w : World}
/-- the set at a holds just the texts ks -/
def SetT (prog : Program) (w : World) (h : Heap) (a : Addr) (ks : List Str) : Prop :=
  ∃ o es ep t, h.get? a = some o ∧ o.ExactSet ∧ o.data = .set es ep t ∧ ElemsOf (PySem.strKind prog w) es.toList ∧ (es.toList.map fun e => strOf e.2).Perm ks ∧ es.size < scanBound ∧ t.fits es.size = true ∧ TabOk w es.size t
theorem SetT.keep {h h' : Heap} {a : Addr} {ks : List Str} (z : SetT prog w h a ks) (k : ∀ o, h.get? a = some o → h'.get? a = some o) : SetT prog w h' a ks := let ⟨o, es, ep, t, ho, r⟩ := z; ⟨o, es, ep, t, k o ho, r⟩
variable {A : Around} {E : Value → Shared → Prop} {s : Shared}
end
end L2

namespace L2
open PySem PySem.Spec PyProof.Rows
section
variable {prog : Program} {w : World} {A : Around} {R : Result → Shared → Prop} {I : Addr} {fp wr : List Addr} {n : Nat} {P : Nat → Value → Prop} {St : Nat → Heap → Prop}
end
section
variable {prog : Program} {w : World} {A : Around} {E : Value → Shared → Prop} {s : Shared}
end
end L2
set_option Elab.async false
set_option linter.all false
set_option maxRecDepth 100000
set_option maxHeartbeats 4000000
namespace L2
open PySem PySem.Spec PyProof.Rows
section
variable {M : Model} {A : Around} {E : Value → Shared → Prop}
end
section
variable {prog : Program} {w : World} {A : Around} {E : Value → Shared → Prop} {s : Shared}
/-- the set at S, as it stands -/
structure SetAt (w : World) (h : Heap) (S : Addr) (es : Array (Int × Value)) (ep : Nat) (t : SetTable) : Prop where
  ex : ∃ o, h.get? S = some o ∧ o.ExactSet ∧ o.data = .set es ep t
  fits : t.fits es.size = true
theorem SetAt.keep {h h' : Heap} {S : Addr} {es : Array (Int × Value)} {ep : Nat} {t : SetTable} (z : SetAt w h S es ep t) (k : ∀ o, h.get? S = some o → h'.get? S = some o) : SetAt w h' S es ep t := ⟨let ⟨o, ho, r⟩ := z.ex; ⟨o, k o ho, r⟩, z.fits⟩
end
end L2

namespace L2
open PySem PySem.Spec PyProof.Rows
section
variable {prog : Program} {w : World} {A : Around} {E : Value → Shared → Prop} {s : Shared}
end
end L2
set_option Elab.async false
set_option linter.all false
set_option maxRecDepth 100000
set_option maxHeartbeats 4000000
namespace L2
open PySem PySem.Spec PyProof.Rows
section
variable {prog : Program} {w : World} {A : Around} {E : Value → Shared → Prop} {s : Shared}
end
end L2

namespace L2
open PySem PySem.Spec PyProof.Rows
section
variable {prog : Program} {w : World} {A : Around} {E : Value → Shared → Prop} {s : Shared}
end
end L2

namespace L2
open PySem PySem.Spec PyProof.Rows
section
variable {prog : Program} {w : World} {A : Around} {E : Value → Shared → Prop} {s : Shared}
end
end L2
set_option Elab.async false
set_option linter.all false
set_option maxRecDepth 100000
set_option maxHeartbeats 4000000
namespace L2
open PySem PySem.Spec PyProof.Rows
section
variable {prog : Program} {w : World} {A : Around} {E : Value → Shared → Prop} {s : Shared}
end
end L2
set_option Elab.async false
set_option linter.all false
set_option maxRecDepth 100000
set_option maxHeartbeats 4000000
namespace L2
open PySem PySem.Spec PyProof.Rows
end L2
set_option Elab.async false
set_option linter.all false
set_option maxRecDepth 100000
set_option maxHeartbeats 4000000
namespace L2
open PySem PySem.Spec PyProof.Rows
def IsRevS (h : Heap) (it : Addr) (x : Str) (t : Tok) (i : Int) : Prop := ∃ o, h.get? it = some o ∧ o.cls = .type "reversed" ∧ o.data = .fields #[.str x t, rawInt i]
theorem IsRevS.typeIs {s : Shared} {a : Addr} {x : Str} {t : Tok} {i : Int} (z : IsRevS s.heap a x t i) : s.TypeIs (.ref a) "reversed" := let ⟨o, ho, hc, _⟩ := z; ⟨o, ho, hc⟩
theorem IsRevS.keep {h h' : Heap} {a : Addr} {x : Str} {t : Tok} {i : Int} (z : IsRevS h a x t i) (e : ∀ o, h.get? a = some o → h'.get? a = some o) : IsRevS h' a x t i := let ⟨o, ho, r⟩ := z; ⟨o, e _ ho, r⟩
section
variable {prog : Program} {w : World} {A : Around} {E : Value → Shared → Prop} {s : Shared}
end
end L2
set_option Elab.async false
set_option linter.all false
set_option maxRecDepth 100000
set_option maxHeartbeats 4000000
namespace L2
open PySem PySem.Spec PyProof.Rows
end L2
set_option Elab.async false
set_option linter.all false
set_option maxRecDepth 100000
set_option maxHeartbeats 4000000
namespace L2
open PySem PySem.Spec PyProof.Rows
section
variable {X : Cx} {elt tg iter : Expr} {ifs : List Expr} {scope : Scope} {pos : Pos} {nm : List Str} {cl : List (Str × Addr)} {cap : List (Option Nat)} {wi : TI} {g : TG} {tc : TT} {te : TE}
end
end L2
set_option Elab.async false
set_option linter.all false
set_option maxRecDepth 100000
set_option maxHeartbeats 4000000
namespace L2
open PySem PySem.Spec PyProof.Rows
open PySem.Builtin PySem.Builtin.Str in
/-- text.split(sep): a new list of the parts -/
theorem call_split {prog : Program} {w : World} {A : Around} {E : Value → Shared → Prop} {s : Shared} {x y : Str} {t u : Tok} {Q : Value → Shared → Prop} (hy : (y.length == 0) = false) (hz : x.length + 2 ≤ sizeLine)
    (q : ∀ (l : List (Str × Tok)) (k : Nat), l.map (·.1) = Txt.split x y → Q (.ref s.heap.objs.size) { s with heap := s.heap.push { cls := .type "list", data := .seq (strValues l).toArray }, toks := k }) :
    wpAny (model prog w) A (call (.builtin "str.split") [.str x t, .str y u]) Q E s := by
  have few : (partsBetween x (occurrences x y 0 x.length (x.length + 1)) y.length).length ≤ sizeLine := by
    have z := StrLaws.occ_length_le x y 0 x.length (x.length + 1)
    rw [length_partsBetween]
    omega
  have T := typeIs_str s x t
  cases c1 : (decide (x.length < y.length) || decide (strKind x < strKind y)) with
  | true => exact call_meets PySem.F.slot_str_split T PySem.F.entry_str_split (PySem.F.args_str_split_2 _ _) (meets_str_split_cannot_occur x y t u c1) (q [(x, t)] s.toks (if_pos c1).symm)
  | false =>
    have n1 := ne_true_of_eq_false c1
    cases c2 : (occurrences x y 0 x.length (x.length + 1)).isEmpty with
    | true => exact call_meets PySem.F.slot_str_split T PySem.F.entry_str_split (PySem.F.args_str_split_2 _ _) (meets_str_split_not_found x y t u c1 hy c2) (q [(x, t)] s.toks ((if_neg n1).trans (if_pos c2)).symm)
    | false =>
      have n2 := ne_true_of_eq_false c2
      refine call_meets PySem.F.slot_str_split T PySem.F.entry_str_split (PySem.F.args_str_split_2 _ _) (meets_str_split_sep x y t u c1 hy c2 (by omega) few) ?_
      have z := q (numbered s.toks (partsBetween x (occurrences x y 0 x.length (x.length + 1)) y.length)) (s.toks + (partsBetween x (occurrences x y 0 x.length (x.length + 1)) y.length).length) ((numbered_texts _ _).trans ((if_neg n1).trans (if_neg n2)).symm)
      rw [← strsFrom_eq] at z
      exact z
theorem joinN_tail {c : Nat} {x y : List Nat} {r : List (List Nat)} : joinN [c] (x :: y :: r) = x ++ c :: joinN [c] (y :: r) := by show x ++ [c] ++ _ = _; simp
theorem cut_once {c : Nat} : ∀ {x x' r r' : List Nat}, c ∉ x → c ∉ x' → x ++ c :: r = x' ++ c :: r' → x = x' ∧ r = r'
  | [], [], _, _, _, _, e => ⟨rfl, by simpa using e⟩
  | [], a :: x', _, _, _, h', e => by
    have : c = a := by simpa using (List.cons.inj e).1
    exact absurd (this ▸ List.mem_cons_self) h'
  | a :: x, [], _, _, h, _, e => by
    have : a = c := by simpa using (List.cons.inj e).1
    exact absurd (this ▸ List.mem_cons_self) h
  | a :: x, b :: x', _, _, h, h', e => by
    obtain ⟨e1, e2⟩ := List.cons.inj e
    obtain ⟨i1, i2⟩ := cut_once (fun z => h (List.mem_cons_of_mem _ z)) (fun z => h' (List.mem_cons_of_mem _ z)) e2
    exact ⟨by rw [e1, i1], i2⟩
theorem joinN_inj {c : Nat} : ∀ (ws vs : List (List Nat)), ws ≠ [] → vs ≠ [] → (∀ w ∈ ws, c ∉ w) → (∀ w ∈ vs, c ∉ w) → joinN [c] ws = joinN [c] vs → ws = vs
  | [], _, h, _, _, _, _ => absurd rfl h
  | _, [], _, h, _, _, _ => absurd rfl h
  | [x], [y], _, _, _, _, e => by rw [show x = y from e]
  | [x], y :: y2 :: r, _, _, h, _, e => by
    rw [joinN_tail] at e
    have e : x = y ++ c :: joinN [c] (y2 :: r) := e
    exact absurd (by rw [e]; simp) (h x List.mem_cons_self)
  | x :: x2 :: r, [y], _, _, _, h, e => by
    rw [joinN_tail] at e
    have e : x ++ c :: joinN [c] (x2 :: r) = y := e
    exact absurd (by rw [← e]; simp) (h y List.mem_cons_self)
  | x :: x2 :: r, y :: y2 :: r', _, _, h, h', e => by
    rw [joinN_tail, joinN_tail] at e
    obtain ⟨e1, e2⟩ := cut_once (h x List.mem_cons_self) (h' y List.mem_cons_self) e
    have := joinN_inj (x2 :: r) (y2 :: r') (by simp) (by simp) (fun w hw => h w (List.mem_cons_of_mem _ hw)) (fun w hw => h' w (List.mem_cons_of_mem _ hw)) e2
    rw [e1, this]
theorem split_tx {c : Nat} {ws : List (List Nat)} (hn : ws ≠ []) (hf : ∀ w ∈ ws, c ∉ w) : Txt.split (tx (joinN [c] ws)) (tx [c]) = ws.map tx := by
  have e := StrLaws.join_split (tx (joinN [c] ws)) (tx [c])
  have fr := StrLaws.split_free (tx (joinN [c] ws)) c
  have ps := split_pos (tx (joinN [c] ws)) (tx [c])
  generalize hS : Txt.split (tx (joinN [c] ws)) (tx [c]) = S at e ps
  have fr : ∀ p ∈ S, c ∉ p.cps.toList := fun p hp => fr p (by rw [← hS] at hp; exact hp)
  have em : S = (S.map fun z => z.cps.toList).map tx := by
    rw [List.map_map]
    conv => lhs; rw [← List.map_id S]
    exact List.map_congr_left fun z _ => (tx_of z).symm
  have ej : Str.join (tx [c]) ((S.map fun z => z.cps.toList).map tx) = tx (joinN [c] (S.map fun z => z.cps.toList)) := by
    have := join_tx [c] (S.map fun z => z.cps.toList)
    rw [← this]
    show _ = Builtin.Str.glued _ _
    rw [StrLaws.glued_eq_join]
  rw [em, ej] at e
  have e := tx_inj.mp e
  rw [em]
  refine congrArg _ (joinN_inj _ ws (fun z => ?_) hn (fun w hw => ?_) hf e)
  · rw [List.map_eq_nil_iff] at z; rw [z] at ps; exact absurd ps (by decide)
  · obtain ⟨p, hp, rfl⟩ := List.mem_map.mp hw
    exact fr p hp
def rSplit : V → List V → Hp → VK → Prop := fun x vs H Q => ∃ (c : Nat) (ws : List (List Nat)), x = .str (tx (joinN [c] ws)) ∧ vs = [.str (tx [c])] ∧ ws ≠ [] ∧ (∀ w ∈ ws, c ∉ w) ∧ (joinN [c] ws).length + 2 ≤ sizeLine ∧ ws.length ≤ sizeLine ∧ ∀ p H2, H p = none → H2 = upd H p (.lst (ws.map fun l => V.str (tx l))) → Q (.ref p) H2
theorem m_split {X : Cx} : RMt X "str.split" rSplit := ⟨by
  intro pins s σ H x vs v us Q I rx rv h
  obtain ⟨c, ws, rfl, rfl, hn, hf, hz, hw, q⟩ := h
  obtain ⟨t, rfl⟩ := rx
  obtain ⟨u, rfl, t2, rfl⟩ := rv.one
  refine call_split (by rfl) (by rw [tx_len]; exact hz) fun l k e => ?_
  rw [split_tx hn hf] at e
  have hfr : H s.heap.objs.size = none := I.hok.fresh (Nat.le_refl _)
  have hv : Vals (ws.map fun l => V.str (tx l)) (strValues l) := by
    have z := of_strsAre (strsAre_of_values l)
    rw [e, List.map_map] at z
    exact z
  refine ⟨.ref s.heap.objs.size, _, I.laid (o := .lst (ws.map fun l => V.str (tx l))) (t' := k) (fun b o eb => Heap.get?_push_of_some _ eb) (Nat.le_refl _) ?_, rfl, q _ _ hfr rfl⟩
  exact ⟨by rw [List.length_map]; exact hw, strValues l, 0, hv, Heap.get?_push_size _ rfl⟩⟩
end L2

namespace L2
open PySem PySem.Spec PyProof.Rows
open AutoSeq1 (wpAny_loadPart')
theorem add_none (l b : Addr) (i1 i2 : Array Value) (n1 n2 : Nat) (d1 d2 : Option Addr) (s1 s2 : Array (Option Value)) (h0 : i1.isEmpty = true) :
    Meets (Builtin.«tuple.__add__» ⟨[.ref l, .ref b], []⟩) (fun _ R s => s.heap.get? l = some { cls := .type "tuple", dict := d1, data := .seq i1 n1, slots := s1 } ∧ s.heap.get? b = some { cls := .type "tuple", dict := d2, data := .seq i2 n2, slots := s2 } ∧ R (.ok (.ret (.ref b))) s) :=
  .of_wp fun prog w A R s h => by
    obtain ⟨hp, g, d, tk, os⟩ := s
    obtain ⟨e1, e2, h⟩ := h
    have a2 := PyProof.Rows.sub_tuple_tuple
    wp_walk using wpAny_loadPart' e1, wpAny_loadPart' e2
    exact ⟨_, rfl, h⟩
def rCatA (K : PySem.W.Frag) : R2 := fun x y H Q => ∃ a b xs ys, x = .ref a ∧ y = .ref b ∧ SqT K H a xs ∧ SqT K H b ys ∧ xs.length + ys.length ≤ sizeLine ∧ ∀ p H2, Same H H2 → SqT K H2 p (xs ++ ys) → Q (.ref p) H2
theorem o_catA {X : Cx} : ROp X (binaryOp .Add) (rCatA X.K) := ⟨by
  intro pins s σ H x y v u Q I rx ry h
  obtain ⟨a, b, xs, ys, rfl, rfl, ha, hb, hz, q⟩ := h
  by_cases hx : xs = []
  · subst hx
    cases rx
    cases ry
    obtain ⟨its, r1, p1, _⟩ := I.tuple ha
    obtain ⟨its2, r2, p2, _⟩ := I.tuple hb
    have e1 : its = [] := r1.nil_iff.mpr rfl
    obtain ⟨⟨c1, d1, g1, l1⟩, f1, hc1, n1, hd1⟩ := id p1
    obtain ⟨⟨c2, d2, g2, l2⟩, f2, hc2, n2, hd2⟩ := id p2
    simp only at hc1 hd1 hc2 hd2
    subst hc1 hd1 hc2 hd2
    refine concat_meets ⟨_, f1, rfl⟩ ⟨_, f2, rfl⟩ noFill_tuple_add seq_tuple_add PySem.F.slot_tuple_add PySem.F.entry_tuple_add (PySem.F.args_tuple_add_2 _ _) (add_none a b its.toArray its2.toArray n1 n2 d1 d2 l1 l2 (by rw [e1]; rfl)) ⟨f1, f2, ?_⟩
    exact ⟨.ref b, H, I, rfl, q b H (Same.refl H) hb⟩
  · exact op_catT pins s σ H _ _ v u Q I rx ry ⟨a, b, xs, ys, rfl, rfl, ha, hb, hx, hz, fun e => q a H (Same.refl H) (by rw [e, List.append_nil]; exact ha), fun _ p hp => q p _ (same_new hp _) (SqT.of upd_same)⟩⟩
end L2
set_option Elab.async false
set_option linter.all false
set_option maxRecDepth 100000
set_option maxHeartbeats 4000000
namespace L2
open PySem PySem.Spec PyProof.Rows

inductive W where
  | non | bl (b : Bool) | int (i : Int) | str (l : List Nat) | tup (ws : List W) | loc (n : Nat)
inductive Cell where
  | lst (ws : List W)
  | ro (ws : List W)
  | exc (c : Str)
abbrev LIM : Nat := 1000000
theorem lim_le {n : Nat} (h : n ≤ LIM) : n ≤ sizeLine := Nat.le_trans h (by decide)
theorem lim_lt {n : Nat} (h : n ≤ LIM) : n < sizeLine := Nat.lt_of_le_of_lt h (by decide)
/-- what a part of the code comes to: a value and the cells, an exception of a class, or nothing is said -/
inductive R (α : Type) where
  | ok (a : α) (st : List Cell)
  | ex (c : Str) (st : List Cell)
  | bad
def R.bind {α β : Type} : R α → (α → List Cell → R β) → R β
  | .ok a st, k => k a st
  | .ex c st, _ => .ex c st
  | .bad, _ => .bad
@[simp] theorem R.bind_ok {α β : Type} (a : α) (st : List Cell) (k : α → List Cell → R β) : (R.ok a st).bind k = k a st := rfl
@[simp] theorem R.bind_ex {α β : Type} (c : Str) (st : List Cell) (k : α → List Cell → R β) : (R.ex c st : R α).bind k = .ex c st := rfl
@[simp] theorem R.bind_bad {α β : Type} (k : α → List Cell → R β) : (R.bad : R α).bind k = .bad := rfl
abbrev EnvW := List (Option W)
inductive RS where
  | nx (ρ : EnvW) (st : List Cell) | rt (w : W) (st : List Cell) | bk (ρ : EnvW) (st : List Cell) | ct (ρ : EnvW) (st : List Cell)
  | ex (c : Str) (ρ : EnvW) (st : List Cell) | bad
abbrev FE := EnvW → List Cell → R W
abbrev FT := EnvW → List Cell → R Bool
abbrev FA := EnvW → List Cell → R (List W)
abbrev FS := EnvW → List Cell → RS

section
variable (K : PySem.W.Frag)
mutual
def RelW (μ : List Addr) (H : Hp) : W → V → Prop
  | .non, v => v = .non
  | .bl b, v => v = .bl b
  | .int i, v => v = .int i
  | .str l, v => v = .str (tx l)
  | .tup ws, v => ∃ p vs, v = .ref p ∧ SqT K H p vs ∧ RelWs μ H ws vs
  | .loc n, v => ∃ a, μ[n]? = some a ∧ v = .ref a
def RelWs (μ : List Addr) (H : Hp) : List W → List V → Prop
  | [], vs => vs = []
  | w :: ws, vs => ∃ x xs, vs = x :: xs ∧ RelW μ H w x ∧ RelWs μ H ws xs
end
end
theorem pre_get {μ μ' : List Addr} (h : μ <+: μ') {n : Nat} {a : Addr} (e : μ[n]? = some a) : μ'[n]? = some a := by
  obtain ⟨t, rfl⟩ := h
  rw [List.getElem?_append_left (List.getElem?_eq_some_iff.mp e).1]; exact e
section
variable {K : PySem.W.Frag} {μ μ' : List Addr} {H H' : Hp}
mutual
theorem RelW.mono (h : μ <+: μ') (e : Ext K H H') : ∀ {w : W} {v : V}, RelW K μ H w v → RelW K μ' H' w v
  | .non, _, r => by unfold RelW at r ⊢; exact r
  | .bl _, _, r => by unfold RelW at r ⊢; exact r
  | .int _, _, r => by unfold RelW at r ⊢; exact r
  | .str _, _, r => by unfold RelW at r ⊢; exact r
  | .tup _, _, r => by unfold RelW at r ⊢; obtain ⟨p, vs, a, b, c⟩ := r; exact ⟨p, vs, a, e _ _ b, RelWs.mono h e c⟩
  | .loc _, _, r => by unfold RelW at r ⊢; obtain ⟨a, b, c⟩ := r; exact ⟨a, pre_get h b, c⟩
theorem RelWs.mono (h : μ <+: μ') (e : Ext K H H') : ∀ {ws : List W} {vs : List V}, RelWs K μ H ws vs → RelWs K μ' H' ws vs
  | [], _, r => by unfold RelWs at r ⊢; exact r
  | _ :: _, _, r => by unfold RelWs at r ⊢; obtain ⟨x, xs, a, b, c⟩ := r; exact ⟨x, xs, a, RelW.mono h e b, RelWs.mono h e c⟩
end
theorem RelWs.nilI : RelWs K μ H [] [] := by unfold RelWs; rfl
theorem RelWs.consI {w : W} {ws : List W} {x : V} {xs : List V} (a : RelW K μ H w x) (b : RelWs K μ H ws xs) : RelWs K μ H (w :: ws) (x :: xs) := by unfold RelWs; exact ⟨x, xs, rfl, a, b⟩
theorem RelWs.nilE {vs : List V} (h : RelWs K μ H [] vs) : vs = [] := by unfold RelWs at h; exact h
theorem RelWs.consE {w : W} {ws : List W} {vs : List V} (h : RelWs K μ H (w :: ws) vs) : ∃ x xs, vs = x :: xs ∧ RelW K μ H w x ∧ RelWs K μ H ws xs := by unfold RelWs at h; exact h
theorem RelWs.pr : ∀ {ws : List W} {vs : List V}, RelWs K μ H ws vs ↔ Paired (fun w v => RelW K μ H w v) ws vs
  | [], vs => ⟨fun h => by rw [h.nilE]; exact .nil, fun h => by cases h; exact .nilI⟩
  | w :: ws, vs => ⟨fun h => by obtain ⟨x, xs, rfl, a, b⟩ := h.consE; exact .cons a (RelWs.pr.mp b), fun h => by cases h with | cons a b => exact .consI a (RelWs.pr.mpr b)⟩
theorem RelWs.len {ws : List W} {vs : List V} (h : RelWs K μ H ws vs) : ws.length = vs.length := Paired.length (RelWs.pr.mp h)
theorem RelWs.app : ∀ {as : List W} {xs : List V} {bs : List W} {ys : List V}, RelWs K μ H as xs → RelWs K μ H bs ys → RelWs K μ H (as ++ bs) (xs ++ ys)
  | [], xs, bs, ys, a, b => by rw [a.nilE]; exact b
  | w :: as, xs, bs, ys, a, b => by obtain ⟨x, xs, rfl, c, d⟩ := a.consE; exact .consI c (RelWs.app d b)
theorem RelWs.get : ∀ {ws : List W} {vs : List V} {i : Nat} {w : W}, RelWs K μ H ws vs → ws[i]? = some w → ∃ v, vs[i]? = some v ∧ RelW K μ H w v
  | [], _, _, _, _, e => by simp at e
  | x :: ws, vs, 0, w, h, e => by obtain ⟨y, ys, rfl, a, b⟩ := h.consE; simp at e; subst e; exact ⟨y, rfl, a⟩
  | x :: ws, vs, i + 1, w, h, e => by obtain ⟨y, ys, rfl, a, b⟩ := h.consE; simpa using RelWs.get (i := i) b (by simpa using e)
theorem RelWs.take : ∀ {ws : List W} {vs : List V} (n : Nat), RelWs K μ H ws vs → RelWs K μ H (ws.take n) (vs.take n)
  | _, _, 0, _ => by simp only [List.take_zero]; exact .nilI
  | [], vs, n + 1, h => by rw [h.nilE]; exact .nilI
  | x :: ws, vs, n + 1, h => by obtain ⟨y, ys, rfl, a, b⟩ := h.consE; exact .consI a (RelWs.take n b)
theorem RelWs.drop : ∀ {ws : List W} {vs : List V} (n : Nat), RelWs K μ H ws vs → RelWs K μ H (ws.drop n) (vs.drop n)
  | _, _, 0, h => h
  | [], vs, n + 1, h => by rw [h.nilE]; exact .nilI
  | x :: ws, vs, n + 1, h => by obtain ⟨y, ys, rfl, a, b⟩ := h.consE; exact RelWs.drop n b
theorem RelWs.setI : ∀ {ws : List W} {vs : List V} (i : Nat) {w : W} {v : V}, RelW K μ H w v → RelWs K μ H ws vs → RelWs K μ H (ws.set i w) (vs.set i v)
  | [], vs, _, _, _, _, h => by rw [h.nilE]; exact .nilI
  | x :: ws, vs, 0, w, v, r, h => by obtain ⟨y, ys, rfl, a, b⟩ := h.consE; exact .consI r b
  | x :: ws, vs, i + 1, w, v, r, h => by obtain ⟨y, ys, rfl, a, b⟩ := h.consE; exact .consI a (RelWs.setI i r b)
theorem RelW.intE {i : Int} {v : V} (h : RelW K μ H (.int i) v) : v = .int i := by unfold RelW at h; exact h
theorem RelW.blE {b : Bool} {v : V} (h : RelW K μ H (.bl b) v) : v = .bl b := by unfold RelW at h; exact h
theorem RelW.nonE {v : V} (h : RelW K μ H .non v) : v = .non := by unfold RelW at h; exact h
theorem RelW.strE {l : List Nat} {v : V} (h : RelW K μ H (.str l) v) : v = .str (tx l) := by unfold RelW at h; exact h
theorem RelW.tupE {ws : List W} {v : V} (h : RelW K μ H (.tup ws) v) : ∃ p vs, v = .ref p ∧ SqT K H p vs ∧ RelWs K μ H ws vs := by unfold RelW at h; exact h
theorem RelW.locE {n : Nat} {v : V} (h : RelW K μ H (.loc n) v) : ∃ a, μ[n]? = some a ∧ v = .ref a := by unfold RelW at h; exact h
theorem RelW.int {i : Int} : RelW K μ H (.int i) (.int i) := by unfold RelW; rfl
theorem RelW.bl {i : Bool} : RelW K μ H (.bl i) (.bl i) := by unfold RelW; rfl
theorem RelW.non : RelW K μ H .non .non := by unfold RelW; rfl
theorem RelW.str {l : List Nat} : RelW K μ H (.str l) (.str (tx l)) := by unfold RelW; rfl
theorem RelW.tupI {ws : List W} {p : Addr} {vs : List V} (a : SqT K H p vs) (b : RelWs K μ H ws vs) : RelW K μ H (.tup ws) (.ref p) := by unfold RelW; exact ⟨p, vs, rfl, a, b⟩
theorem RelW.locI {n : Nat} {a : Addr} (e : μ[n]? = some a) : RelW K μ H (.loc n) (.ref a) := by unfold RelW; exact ⟨a, e, rfl⟩
end

/-- an exception of the class at C, caught -/
def excAt (a : Addr) (C : Value) : HO := .ext fun h => ∃ o vs, h.get? a = some o ∧ o.cls = C ∧ o.data = .fields vs
/-- a list that never changes -/
def RoL (K : PySem.W.Frag) (H : Hp) (a : Addr) (xs : List V) : Prop :=
  (∃ o, H a = some (.frz o (.lst xs))) ∨ ∃ (o : Obj) (its : Array Value) (n : Nat), K.lookup a = some o ∧ o.cls = .type "list" ∧ o.dict = none ∧ o.data = .seq its n ∧ its.size ≤ sizeLine ∧ Vals xs its.toList
theorem RoL.sq {K : PySem.W.Frag} {H : Hp} {a : Addr} {xs : List V} (h : RoL K H a xs) : SqL K H a xs := by
  rcases h with ⟨o, h⟩ | h
  · exact .inl (.inr ⟨o, h⟩)
  · exact .inr h
def Cell.isRo : Cell → Bool
  | .ro _ => true
  | _ => false
def CellR (K : PySem.W.Frag) (mg : Str → Option Value) (μ : List Addr) (H : Hp) : Cell → Addr → Prop
  | .lst ws, a => ∃ vs, H a = some (.lst vs) ∧ RelWs K μ H ws vs
  | .ro ws, a => ∃ vs, RoL K H a vs ∧ RelWs K μ H ws vs
  | .exc c, a => ∃ C, mg c = some C ∧ H a = some (excAt a C)
structure StR (K : PySem.W.Frag) (mg : Str → Option Value) (μ : List Addr) (st : List Cell) (H : Hp) : Prop where
  nd : ∀ (i j : Nat) (a : Addr) (ci cj : Cell), st[i]? = some ci → st[j]? = some cj → ci.isRo = false → cj.isRo = false → μ[i]? = some a → μ[j]? = some a → i = j
  len : st.length = μ.length
  at' : ∀ (i : Nat) (c : Cell) (a : Addr), st[i]? = some c → μ[i]? = some a → CellR K mg μ H c a
section
variable {K : PySem.W.Frag} {mg : Str → Option Value} {μ μ' : List Addr} {H H' : Hp} {st : List Cell}
/-- a cell stands as long as its own object and the tuples do -/
theorem CellR.keep (h : μ <+: μ') (x : Ext K H H') {c : Cell} {a : Addr} (e : ∀ o, H a = some o → H' a = some o) (r : CellR K mg μ H c a) : CellR K mg μ' H' c a := by
  cases c with
  | lst ws => obtain ⟨vs, p, y⟩ := r; exact ⟨vs, e _ p, y.mono h x⟩
  | ro ws =>
    obtain ⟨vs, p, y⟩ := r
    refine ⟨vs, ?_, y.mono h x⟩
    rcases p with ⟨o, p⟩ | p
    · exact .inl ⟨o, e _ p⟩
    · exact .inr p
  | exc c => obtain ⟨C, p, y⟩ := r; exact ⟨C, p, e _ y⟩
theorem CellR.ro_ne {c : Cell} {a : Addr} (r : CellR K mg μ H c a) (h : c.isRo = false) : ∃ o, H a = some o := by
  cases c with
  | lst ws => obtain ⟨vs, p, y⟩ := r; exact ⟨_, p⟩
  | ro ws => cases h
  | exc c => obtain ⟨C, p, y⟩ := r; exact ⟨_, y⟩
theorem StR.same (S : StR K mg μ st H) (e : Same H H') : StR K mg μ st H' := ⟨S.nd, S.len, fun i c a h1 h2 => (S.at' i c a h1 h2).keep (List.prefix_refl _) (SqT.same e) (e a)⟩
theorem StR.get (S : StR K mg μ st H) {n : Nat} {c : Cell} (h : st[n]? = some c) : ∃ a, μ[n]? = some a ∧ CellR K mg μ H c a := by
  have hn : n < μ.length := by rw [← S.len]; exact (List.getElem?_eq_some_iff.mp h).1
  exact ⟨μ[n], List.getElem?_eq_getElem hn, S.at' n c _ h (List.getElem?_eq_getElem hn)⟩
/-- a new cell -/
theorem StR.push (S : StR K mg μ st H) {p : Addr} {o : HO} {c : Cell} (hp : H p = none) (hc : CellR K mg (μ ++ [p]) (upd H p o) c p) : StR K mg (μ ++ [p]) (st ++ [c]) (upd H p o) := by
  have hs : Same H (upd H p o) := same_new hp o
  have hpre : μ <+: μ ++ [p] := List.prefix_append _ _
  have old : ∀ {i : Nat} {d : Cell} {a : Addr}, i < st.length → (st ++ [c])[i]? = some d → (μ ++ [p])[i]? = some a → st[i]? = some d ∧ μ[i]? = some a := fun {i d a} hi h1 h2 => by
    rw [List.getElem?_append_left hi] at h1
    rw [List.getElem?_append_left (by rw [← S.len]; exact hi)] at h2
    exact ⟨h1, h2⟩
  have new : ∀ {i : Nat} {d : Cell} {a : Addr}, ¬ i < st.length → (st ++ [c])[i]? = some d → (μ ++ [p])[i]? = some a → i = st.length ∧ d = c ∧ a = p := fun {i d a} hi h1 h2 => by
    have hi' : i = st.length := by
      have := (List.getElem?_eq_some_iff.mp h1).1
      simp at this; omega
    subst hi'
    simp at h1
    rw [S.len, List.getElem?_append_right (Nat.le_refl _)] at h2
    simp at h2
    exact ⟨rfl, h1.symm, h2.symm⟩
  refine ⟨fun i j a ci cj h1 h2 r1 r2 m1 m2 => ?_, by simp [S.len], fun i d a h1 h2 => ?_⟩
  · by_cases hi : i < st.length
    · obtain ⟨x1, x2⟩ := old hi h1 m1
      by_cases hj : j < st.length
      · obtain ⟨y1, y2⟩ := old hj h2 m2
        exact S.nd i j a ci cj x1 y1 r1 r2 x2 y2
      · obtain ⟨_, _, rfl⟩ := new hj h2 m2
        obtain ⟨o', z⟩ := (S.at' i ci a x1 x2).ro_ne r1
        rw [hp] at z; cases z
    · obtain ⟨e1, _, rfl⟩ := new hi h1 m1
      by_cases hj : j < st.length
      · obtain ⟨y1, y2⟩ := old hj h2 m2
        obtain ⟨o', z⟩ := (S.at' j cj a y1 y2).ro_ne r2
        rw [hp] at z; cases z
      · obtain ⟨e2, _, _⟩ := new hj h2 m2
        omega
  · by_cases hi : i < st.length
    · obtain ⟨x1, x2⟩ := old hi h1 h2
      exact (S.at' i d a x1 x2).keep hpre (SqT.same hs) (hs a)
    · obtain ⟨_, rfl, rfl⟩ := new hi h1 h2
      exact hc
/-- a list's cell written -/
theorem StR.set (S : StR K mg μ st H) {n : Nat} {a : Addr} {ws ws' : List W} {vs vs' : List V} (hn : st[n]? = some (.lst ws)) (hm : μ[n]? = some a) (ha : H a = some (.lst vs)) (hr : RelWs K μ H ws' vs') : StR K mg μ (st.set n (.lst ws')) (upd H a (.lst vs')) := by
  have hx : Ext K H (upd H a (.lst vs')) := SqT.but but_upd ha
  have hl : n < st.length := (List.getElem?_eq_some_iff.mp hn).1
  have back : ∀ {i : Nat} {d : Cell}, (st.set n (.lst ws'))[i]? = some d → ∃ d', st[i]? = some d' ∧ (d' = d ∨ (i = n ∧ d = .lst ws')) := fun {i d} h => by
    by_cases e : i = n
    · subst e
      rw [List.getElem?_set_self hl] at h
      exact ⟨_, hn, .inr ⟨rfl, (Option.some.inj h).symm⟩⟩
    · rw [List.getElem?_set_ne (Ne.symm e)] at h
      exact ⟨d, h, .inl rfl⟩
  refine ⟨fun i j b ci cj h1 h2 r1 r2 m1 m2 => ?_, by simp [S.len], fun i d b h1 h2 => ?_⟩
  · obtain ⟨di, x1, y1⟩ := back h1
    obtain ⟨dj, x2, y2⟩ := back h2
    refine S.nd i j b di dj x1 x2 ?_ ?_ m1 m2
    · rcases y1 with rfl | ⟨rfl, rfl⟩
      · exact r1
      · rw [hn] at x1; cases x1; rfl
    · rcases y2 with rfl | ⟨rfl, rfl⟩
      · exact r2
      · rw [hn] at x2; cases x2; rfl
  · by_cases e : i = n
    · subst e
      rw [List.getElem?_set_self hl] at h1
      cases h1
      rw [hm] at h2; cases h2
      exact ⟨vs', upd_same, hr.mono (List.prefix_refl _) hx⟩
    · rw [List.getElem?_set_ne (Ne.symm e)] at h1
      have r := S.at' i d b h1 h2
      by_cases hro : d.isRo = true
      · cases d with
        | ro zs =>
          obtain ⟨us, p, q⟩ := r
          refine ⟨us, ?_, q.mono (List.prefix_refl _) hx⟩
          rcases p with ⟨o', p⟩ | p
          · exact .inl ⟨o', by rw [upd_ne (by rintro rfl; rw [ha] at p; cases p)]; exact p⟩
          · exact .inr p
        | lst _ => cases hro
        | exc _ => cases hro
      · refine r.keep (List.prefix_refl _) hx fun o ho => ?_
        have hb : b ≠ a := by
          rintro rfl
          exact e (S.nd i n b d _ h1 hn (by simpa using hro) rfl h2 hm)
        rw [upd_ne hb]; exact ho
end
end L2
set_option Elab.async false
set_option linter.all false
set_option maxRecDepth 100000
set_option maxHeartbeats 4000000
namespace L2
open PySem PySem.Spec PyProof.Rows

structure Rl (X : Cx) (μ : List Addr) (ρ : EnvW) (st : List Cell) (σ : St) (H : Hp) : Prop where
  env : Paired (fun (o : Option W) (s : Option V) => ∀ w, o = some w → ∃ v, s = some v ∧ RelW X.K μ H w v) ρ σ
  sto : StR X.K X.mg μ st H
theorem envR_mono {K : PySem.W.Frag} {μ μ' : List Addr} {H H' : Hp} (h : μ <+: μ') (x : Ext K H H') : ∀ {ρ : EnvW} {σ : St}, Paired (fun (o : Option W) (s : Option V) => ∀ w, o = some w → ∃ v, s = some v ∧ RelW K μ H w v) ρ σ →
    Paired (fun (o : Option W) (s : Option V) => ∀ w, o = some w → ∃ v, s = some v ∧ RelW K μ' H' w v) ρ σ
  | _, _, .nil => .nil
  | _, _, .cons a t => .cons (fun w e => let ⟨v, p, q⟩ := a w e; ⟨v, p, q.mono h x⟩) (envR_mono h x t)
theorem Rl.to {X : Cx} {μ μ' : List Addr} {ρ : EnvW} {st st' : List Cell} {σ : St} {H H' : Hp} (r : Rl X μ ρ st σ H) (h : μ <+: μ') (x : Ext X.K H H') (s : StR X.K X.mg μ' st' H') : Rl X μ' ρ st' σ H' := ⟨envR_mono h x r.env, s⟩
theorem envR_get {K : PySem.W.Frag} {μ : List Addr} {H : Hp} : ∀ {ρ : EnvW} {σ : St} {i : Nat} {w : W}, Paired (fun (o : Option W) (s : Option V) => ∀ w, o = some w → ∃ v, s = some v ∧ RelW K μ H w v) ρ σ → ρ[i]? = some (some w) → ∃ v, σ[i]? = some (some v) ∧ RelW K μ H w v
  | _, _, _, _, .nil, e => by simp at e
  | _, _, 0, w, .cons a t, e => by simp at e; obtain ⟨v, p, q⟩ := a w e; exact ⟨v, by simp [p], q⟩
  | _, _, i + 1, w, .cons a t, e => by simpa using envR_get (i := i) t (by simpa using e)
theorem envR_set {K : PySem.W.Frag} {μ : List Addr} {H : Hp} {w : W} {v : V} (r : RelW K μ H w v) : ∀ {ρ : EnvW} {σ : St} (i : Nat), Paired (fun (o : Option W) (s : Option V) => ∀ w, o = some w → ∃ v, s = some v ∧ RelW K μ H w v) ρ σ →
    Paired (fun (o : Option W) (s : Option V) => ∀ w, o = some w → ∃ v, s = some v ∧ RelW K μ H w v) (ρ.set i (some w)) (σ.set i (some v))
  | _, _, _, .nil => .nil
  | _, _, 0, .cons a t => .cons (fun w' e => ⟨v, rfl, by cases e; exact r⟩) t
  | _, _, i + 1, .cons a t => .cons a (envR_set r i t)

/-- an exception of class c is under way in the body of X: raised here, or come from a call. B: all that stood when it was made but the frames -/
structure Flies (X : Cx) (pins : List (Addr × Obj)) (σ : St) (c : Str) (H : Hp) (e : Value) (s : Shared) : Prop where
  inv : Inv X pins σ H s
  ex : ∃ x C t B, e = .ref x ∧ X.mg c = some C ∧ H x = none ∧ B.StaysIn s.heap ∧ B.get? x = none ∧ s.heap.FunFrames B X.stack ∧
    (s.heap.TracedW B x C (.ref t) ∨ ∃ oe vs, s.heap.get? x = some oe ∧ oe.cls = C ∧ oe.dict = none ∧ oe.data = .fields vs ∧ vs[1]? = some .none ∧ vs[0]? = some (.ref t)) ∧
    ∀ b o, s.heap.get? b = some o → (H b ≠ none ∨ ((∃ o0, X.s₀.heap.get? b = some o0) ∧ b ∉ X.fs ∧ b ∉ X.ex) ∨ ((∃ y, X.env.cells.lookup y = some b) ∧ b ∉ frs X.stack) ∨ ∃ p ∈ X.pn ++ pins, p.1 = b) → B.get? b = some o
def XS (X : Cx) (c : Str) (μ : List Addr) (ρ : EnvW) (st : List Cell) (H : Hp) : Prop :=
  ∀ pins μ' σ' H' e s', μ <+: μ' → Ext X.K H H' → Rl X μ' ρ st σ' H' → Flies X pins σ' c H' e s' → X.xe e s'
def XE (X : Cx) (c : Str) (μ : List Addr) (st : List Cell) (σ : St) (H : Hp) : Prop :=
  ∀ pins μ' H' e s', μ <+: μ' → Ext X.K H H' → StR X.K X.mg μ' st H' → Flies X pins σ c H' e s' → X.xe e s'
theorem XE.mono {X : Cx} {c : Str} {μ μ1 : List Addr} {st : List Cell} {σ : St} {H H1 : Hp} (h : XE X c μ st σ H) (p : μ <+: μ1) (x : Ext X.K H H1) : XE X c μ1 st σ H1 := fun pins μ' H' e s' a b => h pins μ' H' e s' (p.trans a) (x.trans b)
theorem XS.mono {X : Cx} {c : Str} {μ μ1 : List Addr} {ρ : EnvW} {st : List Cell} {H H1 : Hp} (h : XS X c μ ρ st H) (p : μ <+: μ1) (x : Ext X.K H H1) : XS X c μ1 ρ st H1 := fun pins μ' σ' H' e s' a b => h pins μ' σ' H' e s' (p.trans a) (x.trans b)
theorem XS.toE {X : Cx} {c : Str} {μ : List Addr} {ρ : EnvW} {st0 st : List Cell} {σ : St} {H : Hp} (h : XS X c μ ρ st H) (r : Rl X μ ρ st0 σ H) : XE X c μ st σ H := fun pins μ' H' e s' a b s f => h pins μ' σ H' e s' a b (r.to a b s) f

/-- what a part of the code comes to, held against what is wanted -/
def RK {α β : Type} (X : Cx) (rel : List Addr → Hp → α → β → Prop) (μ : List Addr) (σ : St) (H : Hp) (Q : β → Hp → Prop) : R α → Prop
  | .ok a st' => ∀ μ' b H', μ <+: μ' → Ext X.K H H' → StR X.K X.mg μ' st' H' → rel μ' H' a b → Q b H'
  | .ex c st' => XE X c μ st' σ H
  | .bad => False
theorem RK.mono {α β : Type} {X : Cx} {rel : List Addr → Hp → α → β → Prop} {μ μ1 : List Addr} {σ : St} {H H1 : Hp} {Q : β → Hp → Prop} {r : R α} (h : RK X rel μ σ H Q r) (p : μ <+: μ1) (x : Ext X.K H H1) : RK X rel μ1 σ H1 Q r := by
  cases r with
  | ok a st => exact fun μ' b H' a1 b1 => h μ' b H' (p.trans a1) (x.trans b1)
  | ex c st => exact XE.mono h p x
  | bad => exact h
def tG {α β : Type} (X : Cx) (rel : List Addr → Hp → α → β → Prop) (f : EnvW → List Cell → R α) (σ : St) (H : Hp) (Q : β → Hp → Prop) : Prop :=
  ∃ μ ρ st, Rl X μ ρ st σ H ∧ RK X rel μ σ H Q (f ρ st)
abbrev relW (X : Cx) : List Addr → Hp → W → V → Prop := fun μ H w v => RelW X.K μ H w v
abbrev relA (X : Cx) : List Addr → Hp → List W → List V → Prop := fun μ H w v => RelWs X.K μ H w v
abbrev relB : List Addr → Hp → Bool → Bool → Prop := fun _ _ a b => a = b
abbrev tE (X : Cx) (f : FE) : TE := tG X (relW X) f
abbrev tT (X : Cx) (f : FT) : TT := tG X relB f
abbrev tA' (X : Cx) (f : FA) : TA := tG X (relA X) f
/-- the first of two parts -/
theorem RK.bind {α β α' β' : Type} {X : Cx} {rel : List Addr → Hp → α → β → Prop} {rel' : List Addr → Hp → α' → β' → Prop} {μ : List Addr} {ρ : EnvW} {st : List Cell} {σ : St} {H : Hp} {r : R α} {k : α → List Cell → R α'} {Q : β' → Hp → Prop} {T : β → Hp → Prop}
    (h : RK X rel' μ σ H Q (r.bind k)) (l : Rl X μ ρ st σ H)
    (hk : ∀ μ' st' x v H', μ <+: μ' → Ext X.K H H' → Rl X μ' ρ st' σ H' → rel μ' H' x v → RK X rel' μ' σ H' Q (k x st') → T v H') : RK X rel μ σ H T r := by
  cases r with
  | ok a st' => exact fun μ' b H' p x s q => hk μ' st' a b H' p x (l.to p x s) q (RK.mono h p x)
  | ex c st' => exact h
  | bad => exact h
def SK (X : Cx) (μ : List Addr) (H : Hp) (D : Ends) : RS → Prop
  | .nx ρ st => ∀ μ' σ' H', μ <+: μ' → Ext X.K H H' → Rl X μ' ρ st σ' H' → D.nx σ' H'
  | .bk ρ st => ∀ μ' σ' H', μ <+: μ' → Ext X.K H H' → Rl X μ' ρ st σ' H' → D.bk σ' H'
  | .ct ρ st => ∀ μ' σ' H', μ <+: μ' → Ext X.K H H' → Rl X μ' ρ st σ' H' → D.ct σ' H'
  | .rt w st => ∀ μ' v H', μ <+: μ' → Ext X.K H H' → StR X.K X.mg μ' st H' → RelW X.K μ' H' w v → D.rt v H'
  | .ex c ρ st => XS X c μ ρ st H
  | .bad => False
theorem SK.mono {X : Cx} {μ μ1 : List Addr} {H H1 : Hp} {D : Ends} {r : RS} (h : SK X μ H D r) (p : μ <+: μ1) (x : Ext X.K H H1) : SK X μ1 H1 D r := by
  cases r with
  | nx ρ st => exact fun μ' b H' a1 b1 => h μ' b H' (p.trans a1) (x.trans b1)
  | bk ρ st => exact fun μ' b H' a1 b1 => h μ' b H' (p.trans a1) (x.trans b1)
  | ct ρ st => exact fun μ' b H' a1 b1 => h μ' b H' (p.trans a1) (x.trans b1)
  | rt w st => exact fun μ' b H' a1 b1 => h μ' b H' (p.trans a1) (x.trans b1)
  | ex c ρ st => exact XS.mono h p x
  | bad => exact h
def tSt (X : Cx) (g : FS) : TS := fun D σ H => ∃ μ ρ st, Rl X μ ρ st σ H ∧ SK X μ H D (g ρ st)

structure SE (X : Cx) (e : Expr) (f : FE) : Prop where
  h : PE X e (tE X f)
structure ST (X : Cx) (e : Expr) (f : FT) : Prop where
  h : PT X e (tT X f)
structure SW (X : Cx) (e : Expr) (f : FT) : Prop where
  h : PW X e (tT X f)
structure SA (X : Cx) (es : List Expr) (f : FA) : Prop where
  h : PA X es (tA' X f)
structure SS (X : Cx) (s : Stmt) (g : FS) : Prop where
  h : PS X s (tSt X g)
structure SB (X : Cx) (s : List Stmt) (g : FS) : Prop where
  h : PSs X s (tSt X g)
theorem PE.imp {X : Cx} {e : Expr} {t t' : TE} (h : PE X e t) (i : ∀ σ H Q, t' σ H Q → t σ H Q) : PE X e t' := fun pins s σ H Q I q => h pins s σ H Q I (i _ _ _ q)
theorem PT.imp {X : Cx} {e : Expr} {t t' : TT} (h : PT X e t) (i : ∀ σ H Q, t' σ H Q → t σ H Q) : PT X e t' := fun pins s σ H Q I q => h pins s σ H Q I (i _ _ _ q)
theorem PW.imp {X : Cx} {e : Expr} {t t' : TT} (h : PW X e t) (i : ∀ σ H Q, t' σ H Q → t σ H Q) : PW X e t' := fun wh pins s σ H Q I q => h wh pins s σ H Q I (i _ _ _ q)
theorem PA.imp {X : Cx} {e : List Expr} {t t' : TA} (h : PA X e t) (i : ∀ σ H Q, t' σ H Q → t σ H Q) : PA X e t' := fun pos pins s σ H Q I q => h pos pins s σ H Q I (i _ _ _ q)
theorem PS.imp {X : Cx} {e : Stmt} {t t' : TS} (h : PS X e t) (i : ∀ D σ H, t' D σ H → t D σ H) : PS X e t' := fun pins s σ H D I q => h pins s σ H D I (i _ _ _ q)
theorem PSs.imp {X : Cx} {e : List Stmt} {t t' : TS} (h : PSs X e t) (i : ∀ D σ H, t' D σ H → t D σ H) : PSs X e t' := fun pins s σ H D I q => h pins s σ H D I (i _ _ _ q)

section
variable {X : Cx} {a b c e o : Expr} {es : List Expr} {pos p p2 apos cpos : Pos} {x name : Str} {j : Nat} {rest : List Expr} {fa fb fc fe : FE} {ft fu : FT} {fs : FA}
def eVar (i : Nat) : FE := fun ρ st => match ρ[i]? with
  | some (some w) => .ok w st
  | _ => .bad
theorem s_var (i : Nat) {x : Str} {pos : Pos} (hN : X.N[i]? = some x := by rfl) (hv : Vis X.env.scope x := by first | exact Or.inl rfl | exact Or.inr (Or.inl rfl) | exact Or.inr (Or.inr rfl)) (hd : (x == ("__debug__" : Str)) = false := by decide)
    (hcd : (x == ("__classdict__" : Str)) = false := by decide) : SE X (.Name x pos) (eVar i) := ⟨(pv i hN hv hd hcd).imp fun σ H Q h => by
  obtain ⟨μ, ρ, st, r, h⟩ := h
  unfold eVar at h
  cases e : ρ[i]? with
  | none => rw [e] at h; exact h.elim
  | some ow =>
    cases ow with
    | none => rw [e] at h; exact h.elim
    | some w =>
      rw [e] at h
      obtain ⟨v, e1, e2⟩ := envR_get r.env e
      exact ⟨v, e1, h μ v H (List.prefix_refl _) Ext.refl r.sto e2⟩⟩
def eC (w : W) : FE := fun _ st => .ok w st
theorem s_c {w : W} {v : V} (hc : PE X e (tC v)) (hr : ∀ μ H, RelW X.K μ H w v) : SE X e (eC w) := ⟨hc.imp fun σ H Q h => by
  obtain ⟨μ, ρ, st, r, h⟩ := h
  exact h μ v H (List.prefix_refl _) Ext.refl r.sto (hr _ _)⟩
theorem s_int {i : Int} : SE X (.Constant (.int i) j pos) (eC (.int i)) := s_c pe_int fun _ _ => .int
theorem s_bl {k : Bool} : SE X (.Constant (.bool k) j pos) (eC (.bl k)) := s_c pe_bl fun _ _ => .bl
theorem s_non : SE X (.Constant .none j pos) (eC .non) := s_c pe_non fun _ _ => .non
theorem s_str {l : List Nat} (h : x = tx l := by decide +kernel) : SE X (.Constant (.str x) j pos) (eC (.str l)) := s_c pe_str fun _ _ => by rw [h]; exact .str
theorem s_gc {w : W} (h : ∃ u v, X.mg x = some u ∧ RelV v u ∧ ∀ μ H, RelW X.K μ H w v) (hg : Gl X x := by rfl) (hd : (x == ("__debug__" : Str)) = false := by decide) : SE X (.Name x pos) (eC w) := by
  obtain ⟨u, v, a, b, c⟩ := h
  exact s_c (pe_gc ⟨u, a, b⟩ hg hd) c
def e2 (f : W → W → List Cell → R W) (fa fb : FE) : FE := fun ρ st => (fa ρ st).bind fun x st => (fb ρ st).bind fun y st => f x y st
/-- an operation that raises nothing -/
def OkW (X : Cx) (μ : List Addr) (H : Hp) (Q : VK) : R W → Prop
  | .ok w st' => ∀ μ' v H', μ <+: μ' → Ext X.K H H' → StR X.K X.mg μ' st' H' → RelW X.K μ' H' w v → Q v H'
  | _ => False
def noEx {α : Type} : R α → Prop
  | .ex _ _ => False
  | _ => True
def rW2 (X : Cx) (f : W → W → List Cell → R W) : R2 := fun x y H Q => ∃ μ st wx wy, StR X.K X.mg μ st H ∧ RelW X.K μ H wx x ∧ RelW X.K μ H wy y ∧ OkW X μ H Q (f wx wy st)
structure OpW (X : Cx) (g : Value → Value → Sem Value) (f : W → W → List Cell → R W) : Prop where
  h : OpR X g (rW2 X f)
  n : ∀ x y st, noEx (f x y st)
theorem okW_of {μ : List Addr} {σ : St} {H : Hp} {Q : VK} {r : R W} (h : RK X (relW X) μ σ H Q r) (n : noEx r) : OkW X μ H Q r := by
  cases r with
  | ok a st => exact h
  | ex c st => exact n.elim
  | bad => exact h
theorem e2_op {f : W → W → List Cell → R W} {σ : St} {H : Hp} {Q : VK} (n : ∀ x y st, noEx (f x y st)) (h : tE X (e2 f fa fb) σ H Q) : tOp (rW2 X f) (tE X fa) (tE X fb) σ H Q := by
  obtain ⟨μ, ρ, st, l, h⟩ := h
  refine ⟨μ, ρ, st, l, RK.bind h l fun μ1 st1 x v H1 p1 x1 l1 q1 h1 => ⟨μ1, ρ, st1, l1, RK.bind h1 l1 fun μ2 st2 y u H2 p2 x2 l2 q2 h2 => ?_⟩⟩
  exact ⟨μ2, st2, x, y, l2.sto, q1.mono p2 x2, q2, okW_of h2 (n _ _ _)⟩
theorem s_op {op : Operator} {f : W → W → List Cell → R W} (ho : OpW X (binaryOp op) f) (ha : SE X a fa) (hb : SE X b fb) : SE X (.BinOp a op b pos) (e2 f fa fb) := ⟨(pe_op ho.h ha.h hb.h).imp fun _ _ _ h => e2_op ho.n h⟩
theorem s_cmp {op : CmpOp} {f : W → W → List Cell → R W} (ho : OpW X (compareOp op) f) (ha : SE X a fa) (hb : SE X b fb) (hm : behindInMarks op b = false := by first | exact nomark _ | rfl) : SE X (.Compare a [op] [b] pos) (e2 f fa fb) := ⟨(pe_cmpR ho.h ha.h hb.h hm).imp fun _ _ _ h => e2_op ho.n h⟩
/-- a value as a test -/
def asB (fa : FE) : FT := fun ρ st => (fa ρ st).bind fun x st => match x with
  | .bl k => .ok k st
  | _ => .bad
theorem asB_test {σ : St} {H : Hp} {Q : Bool → Hp → Prop} (h : tT X (asB fa) σ H Q) : tE X fa σ H fun x H1 => ∃ k, x = .bl k ∧ Q k H1 := by
  obtain ⟨μ, ρ, st, l, h⟩ := h
  refine ⟨μ, ρ, st, l, RK.bind h l fun μ1 st1 x v H1 p1 x1 l1 q1 h1 => ?_⟩
  cases x with
  | bl k => exact ⟨k, q1.blE, h1 μ1 k H1 (List.prefix_refl _) Ext.refl l1.sto rfl⟩
  | _ => exact h1.elim
theorem st_cmp {op : CmpOp} {f : W → W → List Cell → R W} (ho : OpW X (compareOp op) f) (ha : SE X a fa) (hb : SE X b fb) (hm : behindInMarks op b = false := by first | exact nomark _ | rfl) : ST X (.Compare a [op] [b] pos) (asB (e2 f fa fb)) := ⟨(pt_cmpR ho.h ha.h hb.h hm).imp fun σ H Q h => by
  have h' : tE X (e2 f fa fb) σ H fun x H1 => ∃ k, x = .bl k ∧ Q k H1 := asB_test h
  exact e2_op ho.n h'⟩
theorem st_val (h : SE X e fe) (he : ∀ whole, isTrue e X.env whole = (do let v ← whole; standAt e.pos; holding [v] (truthy v)) := by intro _; rfl) : ST X e (asB fe) := ⟨(pt_val h.h he).imp fun σ H Q h => asB_test h⟩
def bnd (t u : FT) : FT := fun ρ st => (t ρ st).bind fun k st => if k then u ρ st else .ok false st
def bor (t u : FT) : FT := fun ρ st => (t ρ st).bind fun k st => if k then .ok true st else u ρ st
def bnt (t : FT) : FT := fun ρ st => (t ρ st).bind fun k st => .ok (!k) st
theorem sw_and1 (ha : ST X a ft) : SW X (.BoolOp .And [a] pos) ft := ⟨pw_and1 ha.h⟩
theorem sw_or1 (ha : ST X a ft) : SW X (.BoolOp .Or [a] pos) ft := ⟨pw_or1 ha.h⟩
theorem sw_and (ha : ST X a ft) (hb : SW X (.BoolOp .And (b :: rest) pos) fu) : SW X (.BoolOp .And (a :: b :: rest) pos) (bnd ft fu) := ⟨(pw_and ha.h hb.h).imp fun σ H Q h => by
  obtain ⟨μ, ρ, st, l, h⟩ := h
  refine ⟨μ, ρ, st, l, RK.bind h l fun μ1 st1 x v H1 p1 x1 l1 q1 h1 => ?_⟩
  cases q1
  cases x with
  | true => exact ⟨μ1, ρ, st1, l1, h1⟩
  | false => exact h1 μ1 false H1 (List.prefix_refl _) Ext.refl l1.sto rfl⟩
theorem sw_or (ha : ST X a ft) (hb : SW X (.BoolOp .Or (b :: rest) pos) fu) : SW X (.BoolOp .Or (a :: b :: rest) pos) (bor ft fu) := ⟨(pw_or ha.h hb.h).imp fun σ H Q h => by
  obtain ⟨μ, ρ, st, l, h⟩ := h
  refine ⟨μ, ρ, st, l, RK.bind h l fun μ1 st1 x v H1 p1 x1 l1 q1 h1 => ?_⟩
  cases q1
  cases x with
  | false => exact ⟨μ1, ρ, st1, l1, h1⟩
  | true => exact h1 μ1 true H1 (List.prefix_refl _) Ext.refl l1.sto rfl⟩
theorem st_w (h : SW X e ft) : ST X e ft := ⟨h.h.pt⟩
theorem st_not (ha : ST X a ft) : ST X (.UnaryOp .Not a pos) (bnt ft) := ⟨(pt_not ha.h).imp fun σ H Q h => by
  obtain ⟨μ, ρ, st, l, h⟩ := h
  refine ⟨μ, ρ, st, l, RK.bind h l fun μ1 st1 x v H1 p1 x1 l1 q1 h1 => ?_⟩
  cases q1
  exact h1 μ1 _ H1 (List.prefix_refl _) Ext.refl l1.sto rfl⟩
def eAnd (fa fb : FE) : FE := fun ρ st => (fa ρ st).bind fun x st => match x with
  | .bl true => fb ρ st
  | .bl false => .ok (.bl false) st
  | _ => .bad
def eOr (fa fb : FE) : FE := fun ρ st => (fa ρ st).bind fun x st => match x with
  | .bl true => .ok (.bl true) st
  | .bl false => fb ρ st
  | _ => .bad
def eNot (fa : FE) : FE := fun ρ st => (fa ρ st).bind fun x st => match x with
  | .bl k => .ok (.bl (!k)) st
  | _ => .bad
theorem s_one {op : BoolOp} (h : SE X a fa) : SE X (.BoolOp op [a] pos) fa := ⟨pe_one h.h⟩
theorem s_and (ha : SE X a fa) (hb : SE X (.BoolOp .And (b :: rest) pos) fb) : SE X (.BoolOp .And (a :: b :: rest) pos) (eAnd fa fb) := ⟨(pe_and ha.h hb.h).imp fun σ H Q h => by
  obtain ⟨μ, ρ, st, l, h⟩ := h
  refine ⟨μ, ρ, st, l, RK.bind h l fun μ1 st1 x v H1 p1 x1 l1 q1 h1 => ?_⟩
  cases x with
  | bl k =>
    refine ⟨k, q1.blE, ?_⟩
    cases k with
    | true => exact ⟨μ1, ρ, st1, l1, h1⟩
    | false => exact h1 μ1 _ H1 (List.prefix_refl _) Ext.refl l1.sto .bl
  | _ => exact h1.elim⟩
theorem s_or (ha : SE X a fa) (hb : SE X (.BoolOp .Or (b :: rest) pos) fb) : SE X (.BoolOp .Or (a :: b :: rest) pos) (eOr fa fb) := ⟨(pe_or ha.h hb.h).imp fun σ H Q h => by
  obtain ⟨μ, ρ, st, l, h⟩ := h
  refine ⟨μ, ρ, st, l, RK.bind h l fun μ1 st1 x v H1 p1 x1 l1 q1 h1 => ?_⟩
  cases x with
  | bl k =>
    refine ⟨k, q1.blE, ?_⟩
    cases k with
    | false => exact ⟨μ1, ρ, st1, l1, h1⟩
    | true => exact h1 μ1 _ H1 (List.prefix_refl _) Ext.refl l1.sto .bl
  | _ => exact h1.elim⟩
theorem s_not (ha : SE X a fa) : SE X (.UnaryOp .Not a pos) (eNot fa) := ⟨(pe_not ha.h).imp fun σ H Q h => by
  obtain ⟨μ, ρ, st, l, h⟩ := h
  refine ⟨μ, ρ, st, l, RK.bind h l fun μ1 st1 x v H1 p1 x1 l1 q1 h1 => ?_⟩
  cases x with
  | bl k => exact ⟨k, q1.blE, h1 μ1 _ H1 (List.prefix_refl _) Ext.refl l1.sto .bl⟩
  | _ => exact h1.elim⟩
def eIf (t : FT) (fa fb : FE) : FE := fun ρ st => (t ρ st).bind fun k st => if k then fa ρ st else fb ρ st
theorem s_if (hc : ST X c ft) (ha : SE X a fa) (hb : SE X b fb) : SE X (.IfExp c a b pos) (eIf ft fa fb) := ⟨(pe_ifExp hc.h ha.h hb.h).imp fun σ H Q h => by
  obtain ⟨μ, ρ, st, l, h⟩ := h
  refine ⟨μ, ρ, st, l, RK.bind h l fun μ1 st1 x v H1 p1 x1 l1 q1 h1 => ?_⟩
  cases q1
  cases x with
  | false => exact ⟨μ1, ρ, st1, l1, h1⟩
  | true => exact ⟨μ1, ρ, st1, l1, h1⟩⟩
def W.isNon : W → Bool
  | .non => true
  | _ => false
def eIsN (fa : FE) : FE := fun ρ st => (fa ρ st).bind fun x st => .ok (.bl x.isNon) st
def eNotN (fa : FE) : FE := fun ρ st => (fa ρ st).bind fun x st => .ok (.bl (!x.isNon)) st
theorem isN_V {μ : List Addr} {H : Hp} {w : W} {v : V} (r : RelW X.K μ H w v) : decide (v = .non) = w.isNon := by
  cases w with
  | non => rw [r.nonE]; rfl
  | bl b => rw [r.blE]; rfl
  | int b => rw [r.intE]; rfl
  | str b => rw [r.strE]; rfl
  | tup b => obtain ⟨p, vs, rfl, _⟩ := r.tupE; rfl
  | loc b => obtain ⟨p, _, rfl⟩ := r.locE; rfl
theorem isN_t {σ : St} {H : Hp} {Q : VK} (h : tE X (eIsN fa) σ H Q) : tIsN (tE X fa) σ H Q := by
  obtain ⟨μ, ρ, st, l, h⟩ := h
  refine ⟨μ, ρ, st, l, RK.bind h l fun μ1 st1 x v H1 p1 x1 l1 q1 h1 => ?_⟩
  show Q (.bl (decide (v = .non))) H1
  rw [isN_V q1]
  exact h1 μ1 _ H1 (List.prefix_refl _) Ext.refl l1.sto .bl
theorem notN_t {σ : St} {H : Hp} {Q : VK} (h : tE X (eNotN fa) σ H Q) : tNotN (tE X fa) σ H Q := by
  obtain ⟨μ, ρ, st, l, h⟩ := h
  refine ⟨μ, ρ, st, l, RK.bind h l fun μ1 st1 x v H1 p1 x1 l1 q1 h1 => ?_⟩
  show Q (.bl (!decide (v = .non))) H1
  rw [isN_V q1]
  exact h1 μ1 _ H1 (List.prefix_refl _) Ext.refl l1.sto .bl
theorem s_isN {pos' : Pos} (ha : SE X a fa) : SE X (.Compare a [.Is] [.Constant .none j pos'] pos) (eIsN fa) := ⟨(pe_cmp (pc_isN ha.h)).imp fun _ _ _ h => isN_t h⟩
theorem st_isN {pos' : Pos} (ha : SE X a fa) : ST X (.Compare a [.Is] [.Constant .none j pos'] pos) (asB (eIsN fa)) := ⟨(pt_cmp (pc_isN ha.h)).imp fun _ _ _ h => isN_t (asB_test h)⟩
theorem st_notN {pos' : Pos} (ha : SE X a fa) : ST X (.Compare a [.IsNot] [.Constant .none j pos'] pos) (asB (eNotN fa)) := ⟨(pt_cmp (pc_notN ha.h)).imp fun _ _ _ h => notN_t (asB_test h)⟩
def aNil : FA := fun _ st => .ok [] st
def aCons (fa : FE) (fs : FA) : FA := fun ρ st => (fa ρ st).bind fun x st => (fs ρ st).bind fun xs st => .ok (x :: xs) st
theorem sa_nil : SA X [] aNil := ⟨pa_nil.imp fun σ H Q h => by
  obtain ⟨μ, ρ, st, l, h⟩ := h
  exact h μ [] H (List.prefix_refl _) Ext.refl l.sto .nilI⟩
theorem sa_cons (ha : SE X e fe) (hr : SA X es fs) (hs : starEach (e :: es) X.env = (false, eval e X.env) :: starEach es X.env := by rfl) : SA X (e :: es) (aCons fe fs) := ⟨(pa_cons ha.h hr.h hs).imp fun σ H Q h => by
  obtain ⟨μ, ρ, st, l, h⟩ := h
  refine ⟨μ, ρ, st, l, RK.bind h l fun μ1 st1 x v H1 p1 x1 l1 q1 h1 => ⟨μ1, ρ, st1, l1, RK.bind h1 l1 fun μ2 st2 xs vs H2 p2 x2 l2 q2 h2 => ?_⟩⟩
  exact h2 μ2 _ H2 (List.prefix_refl _) Ext.refl l2.sto (.consI (q1.mono p2 x2) q2)⟩
def wStrs (zs : List (List Nat)) : FA := fun _ st => .ok (zs.map W.str) st
theorem sa_strs {zs : List Str} {ls : List (List Nat)} (h : CS es zs) (hz : zs = ls.map tx := by decide +kernel) : SA X es (wStrs ls) := ⟨(pa_strs (X := X) h).imp fun σ H Q q => by
  obtain ⟨μ, ρ, st, l, q⟩ := q
  refine q μ _ H (List.prefix_refl _) Ext.refl l.sto ?_
  rw [hz]
  clear hz h q
  induction ls with
  | nil => exact .nilI
  | cons a r ih => exact .consI .str ih⟩
def mkTup (ws : List W) (st : List Cell) : R W := if ws.length ≤ LIM then .ok (.tup ws) st else .bad
def mkLst (ws : List W) (st : List Cell) : R W := if ws.length ≤ LIM then .ok (.loc st.length) (st ++ [.lst ws]) else .bad
def eTup (fs : FA) : FE := fun ρ st => (fs ρ st).bind fun ws st => mkTup ws st
def eLst (fs : FA) : FE := fun ρ st => (fs ρ st).bind fun ws st => mkLst ws st
theorem StR.newLst {K : PySem.W.Frag} {mg : Str → Option Value} {μ : List Addr} {st : List Cell} {H : Hp} (S : StR K mg μ st H) {p : Addr} {ws : List W} {vs : List V} (hp : H p = none) (r : RelWs K μ H ws vs) : StR K mg (μ ++ [p]) (st ++ [.lst ws]) (upd H p (.lst vs)) :=
  S.push hp ⟨vs, upd_same, r.mono (List.prefix_append _ _) (SqT.same (same_new hp _))⟩
theorem newLoc {K : PySem.W.Frag} {mg : Str → Option Value} {μ : List Addr} {st : List Cell} {H H' : Hp} (S : StR K mg μ st H) {p : Addr} : RelW K (μ ++ [p]) H' (.loc st.length) (.ref p) := .locI (by rw [S.len]; simp)
theorem mkTup_ok {μ : List Addr} {st : List Cell} {σ : St} {H : Hp} {Q : VK} {ws : List W} {vs : List V} (S : StR X.K X.mg μ st H) (q : RelWs X.K μ H ws vs) (h : RK X (relW X) μ σ H Q (mkTup ws st)) : vs.length ≤ sizeLine ∧ ∀ p H2, H p = none → H2 = upd H p (.tup vs) → Q (.ref p) H2 := by
  unfold mkTup at h
  by_cases hz : ws.length ≤ LIM
  · rw [if_pos hz] at h
    refine ⟨by rw [← q.len]; exact lim_le hz, fun p H2 hp e => ?_⟩
    subst e
    have x := SqT.same (K := X.K) (same_new hp (.tup vs))
    exact h μ _ _ (List.prefix_refl _) x (S.same (same_new hp _)) (.tupI SqT.new (q.mono (List.prefix_refl _) x))
  · rw [if_neg hz] at h; exact h.elim
theorem mkLst_ok {μ : List Addr} {st : List Cell} {σ : St} {H : Hp} {Q : VK} {ws : List W} {vs : List V} (S : StR X.K X.mg μ st H) (q : RelWs X.K μ H ws vs) (h : RK X (relW X) μ σ H Q (mkLst ws st)) : vs.length ≤ sizeLine ∧ ∀ p H2, H p = none → H2 = upd H p (.lst vs) → Q (.ref p) H2 := by
  unfold mkLst at h
  by_cases hz : ws.length ≤ LIM
  · rw [if_pos hz] at h
    refine ⟨by rw [← q.len]; exact lim_le hz, fun p H2 hp e => ?_⟩
    subst e
    exact h (μ ++ [p]) _ _ (List.prefix_append _ _) (SqT.same (same_new hp _)) (S.newLst hp q) (newLoc S)
  · rw [if_neg hz] at h; exact h.elim
theorem s_tup {k : Nat} (h : SA X es fs) : SE X (.Tuple es k pos) (eTup fs) := ⟨(pe_tupF h.h).imp fun σ H Q h => by
  obtain ⟨μ, ρ, st, l, h⟩ := h
  exact ⟨μ, ρ, st, l, RK.bind h l fun μ1 st1 x v H1 p1 x1 l1 q1 h1 => mkTup_ok l1.sto q1 h1⟩⟩
theorem s_lst (h : SA X es fs) : SE X (.List es pos) (eLst fs) := ⟨(pe_lstF h.h).imp fun σ H Q h => by
  obtain ⟨μ, ρ, st, l, h⟩ := h
  exact ⟨μ, ρ, st, l, RK.bind h l fun μ1 st1 x v H1 p1 x1 l1 q1 h1 => mkLst_ok l1.sto q1 h1⟩⟩
end
end L2
set_option Elab.async false
set_option linter.all false
set_option maxRecDepth 100000
set_option maxHeartbeats 4000000
namespace L2
open PySem PySem.Spec PyProof.Rows
section
variable {X : Cx}
theorem okW_int {μ : List Addr} {st : List Cell} {H : Hp} {Q : VK} {i : Int} (S : StR X.K X.mg μ st H) (h : OkW X μ H Q (.ok (.int i) st)) : Q (.int i) H := h μ _ H (List.prefix_refl _) Ext.refl S .int
theorem okW_bl {μ : List Addr} {st : List Cell} {H : Hp} {Q : VK} {i : Bool} (S : StR X.K X.mg μ st H) (h : OkW X μ H Q (.ok (.bl i) st)) : Q (.bl i) H := h μ _ H (List.prefix_refl _) Ext.refl S .bl
theorem okW_str {μ : List Addr} {st : List Cell} {H : Hp} {Q : VK} {i : List Nat} (S : StR X.K X.mg μ st H) (h : OkW X μ H Q (.ok (.str i) st)) : Q (.str (tx i)) H := h μ _ H (List.prefix_refl _) Ext.refl S .str
theorem okW_rk {μ : List Addr} {σ : St} {H : Hp} {Q : VK} {r : R W} (h : OkW X μ H Q r) : RK X (relW X) μ σ H Q r := by
  cases r with
  | ok a st => exact h
  | ex c st => exact h.elim
  | bad => exact h
/-- two ints with a condition -/
def wII (C : Int → Int → Prop) [∀ i j, Decidable (C i j)] (f : Int → Int → Int) : W → W → List Cell → R W
  | .int i, .int j, st => if C i j then .ok (.int (f i j)) st else .bad
  | _, _, _ => .bad
theorem opII {g : Value → Value → Sem Value} {C C' : Int → Int → Prop} [∀ i j, Decidable (C' i j)] {f : Int → Int → Int} (h : OpR X g (rI C fun i j => .int (f i j))) (hC : ∀ i j, C' i j → C i j) : OpW X g (wII C' f) := ⟨h.imp fun x y H Q ⟨μ, st, wx, wy, S, rx, ry, q⟩ => by
  cases wx with
  | int i =>
    cases wy with
    | int j =>
      simp only [wII] at q
      by_cases c : C' i j
      · rw [if_pos c] at q; exact ⟨i, j, rx.intE, ry.intE, hC i j c, okW_int S q⟩
      · rw [if_neg c] at q; exact q.elim
    | _ => exact q.elim
  | _ => cases wy <;> exact q.elim, fun x y st => by
  unfold wII
  split
  · split <;> trivial
  · trivial⟩
def wCmp (f : Int → Int → Bool) : W → W → List Cell → R W
  | .int i, .int j, st => .ok (.bl (f i j)) st
  | _, _, _ => .bad
theorem opCmp {g : Value → Value → Sem Value} {f : Int → Int → Bool} (h : OpR X g (rI0 fun i j => .bl (f i j))) : OpW X g (wCmp f) := ⟨h.imp fun x y H Q ⟨μ, st, wx, wy, S, rx, ry, q⟩ => by
  cases wx with
  | int i =>
    cases wy with
    | int j => exact ⟨i, j, rx.intE, ry.intE, okW_bl S q⟩
    | _ => exact q.elim
  | _ => cases wy <;> exact q.elim, fun x y st => by
  unfold wCmp
  split <;> trivial⟩
abbrev cMul (i j : Int) : Prop := (-(2 ^ 64) < i ∧ i < 2 ^ 64) ∨ (-(2 ^ 64) < j ∧ j < 2 ^ 64)
abbrev wSub := wII (fun _ _ => True) fun i j => i - j
abbrev wMul := wII cMul fun i j => i * j
abbrev wMod := wII (fun _ j => 0 < j) fun i j => i % j
abbrev wFdiv := wII (fun _ j => 0 < j ∧ j < 1073741824) fun i j => i / j
abbrev wPow := wII (fun i j => 0 ≤ j ∧ j ≤ 1000000 ∧ i.natAbs < 2 ^ 64) fun i j => i ^ j.toNat
theorem rI0_rI {g : Value → Value → Sem Value} {f : Int → Int → V} (h : OpR X g (rI0 f)) : OpR X g (rI (fun _ _ => True) f) := h.imp fun _ _ _ _ ⟨i, j, a, b, _, q⟩ => ⟨i, j, a, b, q⟩
theorem w_sub : OpW X (binaryOp .Sub) wSub := opII (rI0_rI op_sub) fun _ _ _ => trivial
theorem w_mul : OpW X (binaryOp .Mult) wMul := opII op_mul fun _ _ h => h
theorem w_mod : OpW X (binaryOp .Mod) wMod := opII op_mod fun _ _ h => h
theorem w_fdiv : OpW X (binaryOp .FloorDiv) wFdiv := opII op_fdiv fun _ _ h => h
theorem w_pow : OpW X (binaryOp .Pow) wPow := opII op_pow fun _ _ h => h
/-- a + b: ints, texts, tuples, lists -/
def wAdd : W → W → List Cell → R W
  | .int i, .int j, st => .ok (.int (i + j)) st
  | .str a, .str b, st => if a.length + b.length ≤ LIM then .ok (.str (a ++ b)) st else .bad
  | .tup a, .tup b, st => mkTup (a ++ b) st
  | .loc n, .loc m, st => match st[n]?, st[m]? with
    | some (.lst a), some (.lst b) => mkLst (a ++ b) st
    | _, _ => .bad
  | _, _, _ => .bad
theorem mkTup_n (ws : List W) (st : List Cell) : noEx (mkTup ws st) := by unfold mkTup; split <;> trivial
theorem mkLst_n (ws : List W) (st : List Cell) : noEx (mkLst ws st) := by unfold mkLst; split <;> trivial
theorem w_add : OpW X (binaryOp .Add) wAdd := ⟨fun pins s σ H x y v u Q I rv ru ⟨μ, st, wx, wy, S, rx, ry, q⟩ => by
  cases wx with
  | int i =>
    cases wy with
    | int j => exact op_add pins s σ H x y v u Q I rv ru ⟨i, j, rx.intE, ry.intE, okW_int S q⟩
    | _ => exact q.elim
  | str a =>
    cases wy with
    | str b =>
      simp only [wAdd] at q
      by_cases c : a.length + b.length ≤ LIM
      · rw [if_pos c] at q
        exact op_add_str pins s σ H x y v u Q I rv ru ⟨_, _, rx.strE, ry.strE, by rw [tx_len, tx_len]; exact lim_le c, by rw [tx_app]; exact okW_str S q⟩
      · rw [if_neg c] at q; exact q.elim
    | _ => exact q.elim
  | tup a =>
    cases wy with
    | tup b =>
      obtain ⟨p1, vs1, rfl, h1, r1⟩ := rx.tupE
      obtain ⟨p2, vs2, rfl, h2, r2⟩ := ry.tupE
      have q' : OkW X μ H Q (mkTup (a ++ b) st) := q
      unfold mkTup at q'
      by_cases c : (a ++ b).length ≤ LIM
      · rw [if_pos c] at q'
        refine o_catA.h pins s σ H _ _ v u Q I rv ru ⟨p1, p2, vs1, vs2, rfl, rfl, h1, h2, by rw [← r1.len, ← r2.len, ← List.length_append]; exact lim_le c, fun p H2 e t => ?_⟩
        exact q' μ _ _ (List.prefix_refl _) (SqT.same e) (S.same e) (.tupI t ((r1.app r2).mono (List.prefix_refl _) (SqT.same e)))
      · rw [if_neg c] at q'; exact q'.elim
    | _ => exact q.elim
  | loc n =>
    cases wy with
    | loc m =>
      simp only [wAdd] at q
      cases e1 : st[n]? with
      | none => rw [e1] at q; exact q.elim
      | some c1 =>
        cases e2 : st[m]? with
        | none => rw [e1, e2] at q; cases c1 <;> exact q.elim
        | some c2 =>
          cases c1 with
          | lst a =>
            cases c2 with
            | lst b =>
              rw [e1, e2] at q
              obtain ⟨a1, g1, vs1, k1, r1⟩ := S.get e1
              obtain ⟨a2, g2, vs2, k2, r2⟩ := S.get e2
              obtain ⟨b1, f1, rfl⟩ := rx.locE
              obtain ⟨b2, f2, rfl⟩ := ry.locE
              rw [g1] at f1; cases f1
              rw [g2] at f2; cases f2
              obtain ⟨hz, qq⟩ := mkLst_ok (σ := σ) S (r1.app r2) (okW_rk q)
              exact op_catF pins s σ H _ _ v u Q I rv ru ⟨a1, a2, vs1, vs2, rfl, rfl, k1, k2, by rw [← List.length_append]; exact hz, qq⟩
            | _ => rw [e1, e2] at q; exact q.elim
          | _ => rw [e1, e2] at q; exact q.elim
    | _ => exact q.elim
  | _ => cases wy <;> exact q.elim, fun x y st => by
  unfold wAdd
  split
  · trivial
  · split <;> trivial
  · exact mkTup_n _ _
  · split
    · exact mkLst_n _ _
    · trivial
  · trivial⟩
abbrev wLt' := wCmp fun i j => decide (i < j)
abbrev wGt := wCmp fun i j => decide (j < i)
abbrev wGe := wCmp fun i j => decide (j ≤ i)
theorem w_lt : OpW X (compareOp .Lt) wLt' := opCmp op_lt
theorem w_gt : OpW X (compareOp .Gt) wGt := opCmp op_gt
theorem w_ge : OpW X (compareOp .GtE) wGe := opCmp op_ge
end
end L2
set_option Elab.async false
set_option linter.all false
set_option maxRecDepth 100000
set_option maxHeartbeats 4000000
namespace L2
open PySem PySem.Spec PyProof.Rows
mutual
def eqW : W → W → Option Bool
  | .non, .non => some true
  | .bl a, .bl b => some (a == b)
  | .bl a, .int b => some ((if a then 1 else 0) == b)
  | .int a, .bl b => some (a == (if b then 1 else 0))
  | .int a, .int b => some (a == b)
  | .str a, .str b => some (a == b)
  | .tup a, .tup b => eqWs a b
  | .loc _, _ => none
  | .non, .loc _ => none
  | .bl _, .loc _ => none
  | .int _, .loc _ => none
  | .str _, .loc _ => none
  | .tup _, .loc _ => none
  | .non, .bl _ => some false
  | .non, .int _ => some false
  | .non, .str _ => some false
  | .non, .tup _ => some false
  | .bl _, .non => some false
  | .bl _, .str _ => some false
  | .bl _, .tup _ => some false
  | .int _, .non => some false
  | .int _, .str _ => some false
  | .int _, .tup _ => some false
  | .str _, .non => some false
  | .str _, .bl _ => some false
  | .str _, .int _ => some false
  | .str _, .tup _ => some false
  | .tup _, .non => some false
  | .tup _, .bl _ => some false
  | .tup _, .int _ => some false
  | .tup _, .str _ => some false
def eqWs : List W → List W → Option Bool
  | [], [] => some true
  | [], _ :: _ => some false
  | _ :: _, [] => some false
  | x :: xs, y :: ys => match eqW x y, eqWs xs ys with
    | some a, some b => some (a && b)
    | _, _ => none
end
mutual
def W.dep : W → Nat
  | .tup ws => depWs ws + 1
  | _ => 0
def depWs : List W → Nat
  | [] => 0
  | w :: ws => max w.dep (depWs ws)
end
theorem eqWs_range : ∀ (xs ys : List W) (b : Bool), eqWs xs ys = some b → ∃ e : Nat → Bool, (∀ j (h1 : j < xs.length) (h2 : j < ys.length), eqW xs[j] ys[j] = some (e j)) ∧ ((List.range (min xs.length ys.length)).all e && xs.length == ys.length) = b
  | [], [], b, h => by unfold eqWs at h; cases h; exact ⟨fun _ => true, fun j h1 => absurd h1 (Nat.not_lt_zero _), rfl⟩
  | [], y :: ys, b, h => by unfold eqWs at h; cases h; exact ⟨fun _ => true, fun j h1 => absurd h1 (Nat.not_lt_zero _), by simp⟩
  | x :: xs, [], b, h => by unfold eqWs at h; cases h; exact ⟨fun _ => true, fun j _ h1 => absurd h1 (Nat.not_lt_zero _), by simp⟩
  | x :: xs, y :: ys, b, h => by
    unfold eqWs at h
    cases e1 : eqW x y with
    | none => rw [e1] at h; simp at h
    | some a =>
      cases e2 : eqWs xs ys with
      | none => rw [e1, e2] at h; simp at h
      | some c =>
        rw [e1, e2] at h
        simp at h
        obtain ⟨e, he, hb⟩ := eqWs_range xs ys c e2
        refine ⟨fun j => match j with | 0 => a | j + 1 => e j, fun j h1 h2 => ?_, ?_⟩
        · cases j with
          | zero => exact e1
          | succ j => exact he j (Nat.lt_of_succ_lt_succ h1) (Nat.lt_of_succ_lt_succ h2)
        · have m : min (x :: xs).length (y :: ys).length = min xs.length ys.length + 1 := by simp only [List.length_cons]; omega
          rw [m, List.range_succ_eq_map, List.all_cons, List.all_map, ← h, ← hb]
          simp [Function.comp_def, Bool.and_assoc]
theorem eqW_self {X : Cx} {pins : List (Addr × Obj)} {σ : St} {H : Hp} {s : Shared} {μ : List Addr} (I : Inv X pins σ H s) : ∀ (n : Nat) (a b : W) (x : V) (k : Bool), a.dep ≤ n → RelW X.K μ H a x → RelW X.K μ H b x → eqW a b = some k → k = true := by
  intro n
  induction n with
  | zero =>
    intro a b x k hn ra rb he
    cases a with
    | tup i => unfold W.dep at hn; omega
    | non => cases ra.nonE; cases b <;> first | (unfold eqW at he; cases he; rfl) | cases rb.blE | cases rb.intE | cases rb.strE | (obtain ⟨_, _, z, _⟩ := rb.tupE; cases z) | (unfold eqW at he; cases he)
    | bl i => cases ra.blE; cases b <;> first | (cases rb.blE; unfold eqW at he; simp at he; exact he) | cases rb.nonE | cases rb.intE | cases rb.strE | (obtain ⟨_, _, z, _⟩ := rb.tupE; cases z) | (unfold eqW at he; cases he)
    | int i => cases ra.intE; cases b <;> first | (cases rb.intE; unfold eqW at he; simp at he; exact he) | cases rb.nonE | cases rb.blE | cases rb.strE | (obtain ⟨_, _, z, _⟩ := rb.tupE; cases z) | (unfold eqW at he; cases he)
    | str i => cases ra.strE; cases b <;> first | (have z := rb.strE; injection z with z; rw [tx_inj.mp z] at he; unfold eqW at he; simp at he; exact he) | cases rb.nonE | cases rb.blE | cases rb.intE | (obtain ⟨_, _, z, _⟩ := rb.tupE; cases z) | (unfold eqW at he; cases he)
    | loc i => cases b <;> (unfold eqW at he; cases he)
  | succ n ih =>
    intro a b x k hn ra rb he
    cases a with
    | non => cases ra.nonE; cases b <;> first | (unfold eqW at he; cases he; rfl) | cases rb.blE | cases rb.intE | cases rb.strE | (obtain ⟨_, _, z, _⟩ := rb.tupE; cases z) | (unfold eqW at he; cases he)
    | bl i => cases ra.blE; cases b <;> first | (cases rb.blE; unfold eqW at he; simp at he; exact he) | cases rb.nonE | cases rb.intE | cases rb.strE | (obtain ⟨_, _, z, _⟩ := rb.tupE; cases z) | (unfold eqW at he; cases he)
    | int i => cases ra.intE; cases b <;> first | (cases rb.intE; unfold eqW at he; simp at he; exact he) | cases rb.nonE | cases rb.blE | cases rb.strE | (obtain ⟨_, _, z, _⟩ := rb.tupE; cases z) | (unfold eqW at he; cases he)
    | str i => cases ra.strE; cases b <;> first | (have z := rb.strE; injection z with z; rw [tx_inj.mp z] at he; unfold eqW at he; simp at he; exact he) | cases rb.nonE | cases rb.blE | cases rb.intE | (obtain ⟨_, _, z, _⟩ := rb.tupE; cases z) | (unfold eqW at he; cases he)
    | loc i => cases b <;> (unfold eqW at he; cases he)
    | tup i =>
      obtain ⟨p', vs', rfl, hS', r'⟩ := ra.tupE
      cases b with
      | tup z =>
        obtain ⟨p, vs, e, hS, r⟩ := rb.tupE
        cases e
        obtain rfl := I.tuple_inj hS hS'
        have he' : eqWs i z = some k := by unfold eqW at he; exact he
        have dn : depWs i ≤ n := by unfold W.dep at hn; omega
        have key : ∀ (i z : List W) (vs : List V) (k : Bool), depWs i ≤ n → RelWs X.K μ H i vs → RelWs X.K μ H z vs → eqWs i z = some k → k = true := by
          intro i
          induction i with
          | nil =>
            intro z vs k _ r' r he
            have e1 := r'.nilE
            subst e1
            cases z with
            | nil => unfold eqWs at he; cases he; rfl
            | cons _ _ => have e2 := r.len; simp at e2
          | cons w i ih2 =>
            intro z vs k dn r' r he
            obtain ⟨x, xs, rfl, rx, rxs⟩ := r'.consE
            cases z with
            | nil => have e2 := r.len; simp at e2
            | cons y z =>
              obtain ⟨x2, xs2, e3, ry, rys⟩ := r.consE
              cases e3
              unfold eqWs at he
              cases e1 : eqW w y with
              | none => rw [e1] at he; simp at he
              | some k1 =>
                cases e2 : eqWs i z with
                | none => rw [e1, e2] at he; simp at he
                | some k2 =>
                  rw [e1, e2] at he
                  simp at he
                  unfold depWs at dn
                  have q1 := ih w y x k1 (by omega) rx ry e1
                  have q2 := ih2 z xs k2 (by omega) rxs rys e2
                  rw [← he, q1, q2]; rfl
        exact key i z _ k dn r' r he'
      | non => cases rb.nonE
      | bl z => cases rb.blE
      | int z => cases rb.intE
      | str z => cases rb.strE
      | loc z => unfold eqW at he; cases he
theorem depWs_get : ∀ {ws : List W} {j : Nat} (h : j < ws.length), ws[j].dep ≤ depWs ws
  | w :: ws, 0, _ => by unfold depWs; exact Nat.le_max_left _ _
  | w :: ws, j + 1, h => by unfold depWs; exact Nat.le_trans (depWs_get (j := j) (Nat.lt_of_succ_lt_succ h)) (Nat.le_max_right _ _)
theorem eqAt_step {X : Cx} {pins : List (Addr × Obj)} {σ : St} {H : Hp} {s : Shared} {μ : List Addr} (I : Inv X pins σ H s) (n : Nat)
    (ih : ∀ m, m + 1 = n → ∀ (a b : W) (A : Around) (x y : V) (u v : Value) (k : Bool), a.dep ≤ m → RelW X.K μ H a x → RelW X.K μ H b y → RelV x u → RelV y v → A.units + m < cLine → eqW a b = some k → SeqAt.EqAt A s u v k) :
    ∀ (a b : W) (A : Around) (x y : V) (u v : Value) (k : Bool), a.dep ≤ n → RelW X.K μ H a x → RelW X.K μ H b y → RelV x u → RelV y v → A.units + n < cLine → eqW a b = some k → SeqAt.EqAt A s u v k := by
  intro a b A x y u v k hn ra rb ru rv hu he
  have hu0 : A.units < cLine := by omega
  cases a with
  | non =>
    cases ra.nonE; cases ru
    cases b with
    | non => cases rb.nonE; cases rv; unfold eqW at he; cases he; exact SeqAt.EqAt.same _
    | bl z => cases rb.blE; cases rv; unfold eqW at he; cases he; exact SeqAt.EqAt.none_bool z
    | int z => cases rb.intE; obtain ⟨t, rfl⟩ := rv; unfold eqW at he; cases he; exact SeqAt.EqAt.none_int z t
    | str z => cases rb.strE; obtain ⟨t, rfl⟩ := rv; unfold eqW at he; cases he; exact SeqAt.EqAt.none_str _ t
    | tup z => obtain ⟨p, vs, rfl, hS, _⟩ := rb.tupE; cases rv; obtain ⟨its, _, ht, _⟩ := I.tuple hS; unfold eqW at he; cases he; exact SeqAt.EqAt.none_tuple ht hu0
    | loc z => unfold eqW at he; cases he
  | bl i =>
    cases ra.blE; cases ru
    cases b with
    | non => cases rb.nonE; cases rv; unfold eqW at he; cases he; exact SeqAt.EqAt.bool_none i
    | bl z => cases rb.blE; cases rv; unfold eqW at he; cases he; exact SeqAt.EqAt.bool_bool i z
    | int z => cases rb.intE; obtain ⟨t, rfl⟩ := rv; unfold eqW at he; cases he; exact SeqAt.EqAt.bool_int i z t
    | str z => cases rb.strE; obtain ⟨t, rfl⟩ := rv; unfold eqW at he; cases he; exact SeqAt.EqAt.bool_str i _ t
    | tup z => obtain ⟨p, vs, rfl, hS, _⟩ := rb.tupE; cases rv; obtain ⟨its, _, ht, _⟩ := I.tuple hS; unfold eqW at he; cases he; exact SeqAt.EqAt.bool_tuple i ht hu0
    | loc z => unfold eqW at he; cases he
  | int i =>
    cases ra.intE; obtain ⟨t', rfl⟩ := ru
    cases b with
    | non => cases rb.nonE; cases rv; unfold eqW at he; cases he; exact SeqAt.EqAt.int_none i t'
    | bl z => cases rb.blE; cases rv; unfold eqW at he; cases he; exact SeqAt.EqAt.int_bool i t' z
    | int z => cases rb.intE; obtain ⟨t, rfl⟩ := rv; unfold eqW at he; cases he; exact SeqAt.EqAt.int_int i t' z t
    | str z => cases rb.strE; obtain ⟨t, rfl⟩ := rv; unfold eqW at he; cases he; exact SeqAt.EqAt.int_str i t' _ t
    | tup z => obtain ⟨p, vs, rfl, hS, _⟩ := rb.tupE; cases rv; obtain ⟨its, _, ht, _⟩ := I.tuple hS; unfold eqW at he; cases he; exact SeqAt.EqAt.int_tuple i t' ht hu0
    | loc z => unfold eqW at he; cases he
  | str i =>
    cases ra.strE; obtain ⟨t', rfl⟩ := ru
    cases b with
    | non => cases rb.nonE; cases rv; unfold eqW at he; cases he; exact SeqAt.EqAt.str_none _ t'
    | bl z => cases rb.blE; cases rv; unfold eqW at he; cases he; exact SeqAt.EqAt.str_bool _ t' z
    | int z => cases rb.intE; obtain ⟨t, rfl⟩ := rv; unfold eqW at he; cases he; exact SeqAt.EqAt.str_int _ t' z t
    | str z =>
      cases rb.strE; obtain ⟨t, rfl⟩ := rv; unfold eqW at he; cases he
      have := SeqAt.EqAt.str_str (A := A) (s := s) (tx i) t' (tx z) t
      rw [← SeqAt.str_beq] at this
      exact this
    | tup z => obtain ⟨p, vs, rfl, hS, _⟩ := rb.tupE; cases rv; obtain ⟨its, _, ht, _⟩ := I.tuple hS; unfold eqW at he; cases he; exact SeqAt.EqAt.str_tuple _ t' ht hu0
    | loc z => unfold eqW at he; cases he
  | tup i =>
    obtain ⟨p', vs', rfl, hS', r'⟩ := ra.tupE; cases ru; obtain ⟨its', w', ht', _⟩ := I.tuple hS'
    cases b with
    | non => cases rb.nonE; cases rv; unfold eqW at he; cases he; exact SeqAt.EqAt.tuple_none ht' hu0
    | bl z => cases rb.blE; cases rv; unfold eqW at he; cases he; exact SeqAt.EqAt.tuple_bool z ht' hu0
    | int z => cases rb.intE; obtain ⟨t, rfl⟩ := rv; unfold eqW at he; cases he; exact SeqAt.EqAt.tuple_int z t ht' hu0
    | str z => cases rb.strE; obtain ⟨t, rfl⟩ := rv; unfold eqW at he; cases he; exact SeqAt.EqAt.tuple_str _ t ht' hu0
    | tup z =>
      obtain ⟨p, vs, rfl, hS, r⟩ := rb.tupE; cases rv; obtain ⟨its, w, ht, _⟩ := I.tuple hS
      have he' : eqWs i z = some k := by unfold eqW at he; exact he
      by_cases hpp : p' = p
      · subst hpp
        rw [eqW_self I n (.tup i) (.tup z) (.ref p') k hn ra rb he]
        exact SeqAt.EqAt.same _
      · obtain ⟨e, h1, h2⟩ := eqWs_range i z k he'
        have l1 : its'.length = i.length := by rw [← w'.length, ← r'.len]
        have l2 : its.length = z.length := by rw [← w.length, ← r.len]
        have hd : depWs i + 1 ≤ n := by unfold W.dep at hn; exact hn
        obtain ⟨m, rfl⟩ : ∃ m, n = m + 1 := ⟨n - 1, by omega⟩
        have R := SeqAt.RcAt.tuples (A := A) (e := e) ht' ht hu0 (fun j j1 j2 => by
          have j1' : j < i.length := by rw [← l1]; simpa using j1
          have j2' : j < z.length := by rw [← l2]; simpa using j2
          obtain ⟨x1, g1, q1⟩ := r'.get (List.getElem?_eq_getElem j1')
          obtain ⟨x2, g2, q2⟩ := r.get (List.getElem?_eq_getElem j2')
          obtain ⟨u1, f1, v1⟩ := w'.get g1
          obtain ⟨u2, f2, v2⟩ := w.get g2
          have E := ih m rfl i[j] z[j] A.in1 x1 x2 u1 u2 (e j) (Nat.le_trans (depWs_get j1') (by omega)) q1 q2 v1 v2 (by show A.units + 1 + m < cLine; omega) (h1 j j1' j2')
          have t1 : its'.toArray[j] = u1 := by
            have := (List.getElem?_eq_some_iff.mp f1).2
            simpa using this
          have t2 : its.toArray[j] = u2 := by
            have := (List.getElem?_eq_some_iff.mp f2).2
            simpa using this
          rw [t1, t2]; exact E)
        have sz1 : its'.toArray.size = i.length := by simp [l1]
        have sz2 : its.toArray.size = z.length := by simp [l2]
        rw [sz1, sz2, h2] at R
        exact SeqAt.EqAt.of_refs hpp R
    | loc z => unfold eqW at he; cases he
  | loc i => cases b <;> (unfold eqW at he; cases he)
theorem eqAt_W {X : Cx} {pins : List (Addr × Obj)} {σ : St} {H : Hp} {s : Shared} {μ : List Addr} (I : Inv X pins σ H s) : ∀ (n : Nat) (a b : W) (A : Around) (x y : V) (u v : Value) (k : Bool), a.dep ≤ n → RelW X.K μ H a x → RelW X.K μ H b y → RelV x u → RelV y v → A.units + n < cLine → eqW a b = some k → SeqAt.EqAt A s u v k := by
  intro n
  induction n with
  | zero => exact eqAt_step I 0 fun m h => absurd h (by omega)
  | succ n ih => exact eqAt_step I (n + 1) fun m h => (show m = n by omega) ▸ ih
theorem rcAt_W {X : Cx} {pins : List (Addr × Obj)} {σ : St} {H : Hp} {s : Shared} {μ : List Addr} (I : Inv X pins σ H s) (n : Nat) :
    ∀ (a b : W) (A : Around) (x y : V) (u v : Value) (k : Bool), (b.dep = 0 ∨ a.dep ≤ n) → RelW X.K μ H a x → RelW X.K μ H b y → RelV x u → RelV y v → A.units + n < cLine → eqW a b = some k → SeqAt.RcAt A s u v k := by
  intro a b A x y u v k hn ra rb ru rv hu he
  have hu0 : A.units < cLine := by omega
  cases a with
  | non =>
    cases ra.nonE; cases ru
    cases b with
    | non => cases rb.nonE; cases rv; unfold eqW at he; cases he; exact SeqAt.RcAt.none_none
    | bl z => cases rb.blE; cases rv; unfold eqW at he; cases he; exact SeqAt.RcAt.none_bool z
    | int z => cases rb.intE; obtain ⟨t, rfl⟩ := rv; unfold eqW at he; cases he; exact SeqAt.RcAt.none_int z t
    | str z => cases rb.strE; obtain ⟨t, rfl⟩ := rv; unfold eqW at he; cases he; exact SeqAt.RcAt.none_str _ t
    | tup z => obtain ⟨p, vs, rfl, hS, _⟩ := rb.tupE; cases rv; obtain ⟨its, _, ht, _⟩ := I.tuple hS; unfold eqW at he; cases he; exact SeqAt.RcAt.none_tuple ht hu0
    | loc z => unfold eqW at he; cases he
  | bl i =>
    cases ra.blE; cases ru
    cases b with
    | non => cases rb.nonE; cases rv; unfold eqW at he; cases he; exact SeqAt.RcAt.bool_none i
    | bl z => cases rb.blE; cases rv; unfold eqW at he; cases he; exact SeqAt.RcAt.bool_bool i z
    | int z => cases rb.intE; obtain ⟨t, rfl⟩ := rv; unfold eqW at he; cases he; exact SeqAt.RcAt.bool_int i z t
    | str z => cases rb.strE; obtain ⟨t, rfl⟩ := rv; unfold eqW at he; cases he; exact SeqAt.RcAt.bool_str i _ t
    | tup z => obtain ⟨p, vs, rfl, hS, _⟩ := rb.tupE; cases rv; obtain ⟨its, _, ht, _⟩ := I.tuple hS; unfold eqW at he; cases he; exact SeqAt.RcAt.bool_tuple i ht hu0
    | loc z => unfold eqW at he; cases he
  | int i =>
    cases ra.intE; obtain ⟨t', rfl⟩ := ru
    cases b with
    | non => cases rb.nonE; cases rv; unfold eqW at he; cases he; exact SeqAt.RcAt.int_none i t'
    | bl z => cases rb.blE; cases rv; unfold eqW at he; cases he; exact SeqAt.RcAt.int_bool i t' z
    | int z => cases rb.intE; obtain ⟨t, rfl⟩ := rv; unfold eqW at he; cases he; exact SeqAt.RcAt.int_int i t' z t
    | str z => cases rb.strE; obtain ⟨t, rfl⟩ := rv; unfold eqW at he; cases he; exact SeqAt.RcAt.int_str i t' _ t
    | tup z => obtain ⟨p, vs, rfl, hS, _⟩ := rb.tupE; cases rv; obtain ⟨its, _, ht, _⟩ := I.tuple hS; unfold eqW at he; cases he; exact SeqAt.RcAt.int_tuple i t' ht hu0
    | loc z => unfold eqW at he; cases he
  | str i =>
    cases ra.strE; obtain ⟨t', rfl⟩ := ru
    cases b with
    | non => cases rb.nonE; cases rv; unfold eqW at he; cases he; exact SeqAt.RcAt.str_none _ t'
    | bl z => cases rb.blE; cases rv; unfold eqW at he; cases he; exact SeqAt.RcAt.str_bool _ t' z
    | int z => cases rb.intE; obtain ⟨t, rfl⟩ := rv; unfold eqW at he; cases he; exact SeqAt.RcAt.str_int _ t' z t
    | str z =>
      cases rb.strE; obtain ⟨t, rfl⟩ := rv; unfold eqW at he; cases he
      have := SeqAt.RcAt.str_str (A := A) (s := s) (tx i) t' (tx z) t
      rw [← SeqAt.str_beq] at this
      exact this
    | tup z => obtain ⟨p, vs, rfl, hS, _⟩ := rb.tupE; cases rv; obtain ⟨its, _, ht, _⟩ := I.tuple hS; unfold eqW at he; cases he; exact SeqAt.RcAt.str_tuple _ t' ht hu0
    | loc z => unfold eqW at he; cases he
  | tup i =>
    obtain ⟨p', vs', rfl, hS', r'⟩ := ra.tupE; cases ru; obtain ⟨its', w', ht', _⟩ := I.tuple hS'
    cases b with
    | non => cases rb.nonE; cases rv; unfold eqW at he; cases he; exact SeqAt.RcAt.tuple_none ht' hu0
    | bl z => cases rb.blE; cases rv; unfold eqW at he; cases he; exact SeqAt.RcAt.tuple_bool z ht' hu0
    | int z => cases rb.intE; obtain ⟨t, rfl⟩ := rv; unfold eqW at he; cases he; exact SeqAt.RcAt.tuple_int z t ht' hu0
    | str z => cases rb.strE; obtain ⟨t, rfl⟩ := rv; unfold eqW at he; cases he; exact SeqAt.RcAt.tuple_str _ t ht' hu0
    | tup z =>
      obtain ⟨p, vs, rfl, hS, r⟩ := rb.tupE; cases rv; obtain ⟨its, w, ht, _⟩ := I.tuple hS
      have he' : eqWs i z = some k := by unfold eqW at he; exact he
      obtain ⟨e, h1, h2⟩ := eqWs_range i z k he'
      have l1 : its'.length = i.length := by rw [← w'.length, ← r'.len]
      have l2 : its.length = z.length := by rw [← w.length, ← r.len]
      have hd : depWs i + 1 ≤ n := by
        rcases hn with hn | hn
        · unfold W.dep at hn; omega
        · unfold W.dep at hn; exact hn
      obtain ⟨m, rfl⟩ : ∃ m, n = m + 1 := ⟨n - 1, by omega⟩
      have R := SeqAt.RcAt.tuples (A := A) (e := e) ht' ht hu0 (fun j j1 j2 => by
        have j1' : j < i.length := by rw [← l1]; simpa using j1
        have j2' : j < z.length := by rw [← l2]; simpa using j2
        obtain ⟨x1, g1, q1⟩ := r'.get (List.getElem?_eq_getElem j1')
        obtain ⟨x2, g2, q2⟩ := r.get (List.getElem?_eq_getElem j2')
        obtain ⟨u1, f1, v1⟩ := w'.get g1
        obtain ⟨u2, f2, v2⟩ := w.get g2
        have E := eqAt_W I m i[j] z[j] A.in1 x1 x2 u1 u2 (e j) (Nat.le_trans (depWs_get j1') (by omega)) q1 q2 v1 v2 (by show A.units + 1 + m < cLine; omega) (h1 j j1' j2')
        have t1 : its'.toArray[j] = u1 := by
          have := (List.getElem?_eq_some_iff.mp f1).2
          simpa using this
        have t2 : its.toArray[j] = u2 := by
          have := (List.getElem?_eq_some_iff.mp f2).2
          simpa using this
        rw [t1, t2]; exact E)
      have sz1 : its'.toArray.size = i.length := by simp [l1]
      have sz2 : its.toArray.size = z.length := by simp [l2]
      rw [sz1, sz2, h2] at R
      exact R
    | loc z => unfold eqW at he; cases he
  | loc i => cases b <;> (unfold eqW at he; cases he)
/-- a == b -/
def wEq : W → W → List Cell → R W := fun x y st => match eqW x y with
  | some k => if y.dep = 0 ∨ x.dep ≤ 64 then .ok (.bl k) st else .bad
  | none => .bad
theorem w_eq {X : Cx} {k : Nat} (hr : Room k X.A) : OpW X (compareOp .Eq) wEq := ⟨fun pins s σ H x y v u Q I rv ru ⟨μ, st, wx, wy, S, rx, ry, q⟩ => by
  unfold wEq at q
  cases e : eqW wx wy with
  | none => rw [e] at q; exact q.elim
  | some b =>
    rw [e] at q
    simp only at q
    by_cases c : wy.dep = 0 ∨ wx.dep ≤ 64
    · rw [if_pos c] at q
      have := hr.units
      exact rcAt_W I 64 wx wy X.A x y v u b c rx ry rv ru this e X.prog X.w X.xe _ ⟨.bl b, H, I, rfl, okW_bl S q⟩
    · rw [if_neg c] at q; exact q.elim, fun x y st => by
  unfold wEq
  split
  · split <;> trivial
  · trivial⟩
theorem rcNeAt_W {X : Cx} {pins : List (Addr × Obj)} {σ : St} {H : Hp} {s : Shared} {μ : List Addr} (I : Inv X pins σ H s) (n : Nat) :
    ∀ (a b : W) (A : Around) (x y : V) (u v : Value) (k : Bool), (b.dep = 0 ∨ a.dep ≤ n) → RelW X.K μ H a x → RelW X.K μ H b y → RelV x u → RelV y v → A.units + n < cLine → eqW a b = some k → SeqAt.RcNeAt A s u v (!k) := by
  intro a b A x y u v k hn ra rb ru rv hu he
  have hu0 : A.units < cLine := by omega
  cases a with
  | non =>
    cases ra.nonE; cases ru
    cases b with
    | non => cases rb.nonE; cases rv; unfold eqW at he; cases he; exact SeqAt.RcNeAt.none_none
    | bl z => cases rb.blE; cases rv; unfold eqW at he; cases he; exact SeqAt.RcNeAt.none_bool z
    | int z => cases rb.intE; obtain ⟨t, rfl⟩ := rv; unfold eqW at he; cases he; exact SeqAt.RcNeAt.none_int z t
    | str z => cases rb.strE; obtain ⟨t, rfl⟩ := rv; unfold eqW at he; cases he; exact SeqAt.RcNeAt.none_str _ t
    | tup z => obtain ⟨p, vs, rfl, hS, _⟩ := rb.tupE; cases rv; obtain ⟨its, _, ht, _⟩ := I.tuple hS; unfold eqW at he; cases he; exact SeqAt.RcNeAt.none_tuple ht hu0
    | loc z => unfold eqW at he; cases he
  | bl i =>
    cases ra.blE; cases ru
    cases b with
    | non => cases rb.nonE; cases rv; unfold eqW at he; cases he; exact SeqAt.RcNeAt.bool_none i
    | bl z => cases rb.blE; cases rv; unfold eqW at he; cases he; exact SeqAt.RcNeAt.bool_bool i z
    | int z => cases rb.intE; obtain ⟨t, rfl⟩ := rv; unfold eqW at he; cases he; exact SeqAt.RcNeAt.bool_int i z t
    | str z => cases rb.strE; obtain ⟨t, rfl⟩ := rv; unfold eqW at he; cases he; exact SeqAt.RcNeAt.bool_str i _ t
    | tup z => obtain ⟨p, vs, rfl, hS, _⟩ := rb.tupE; cases rv; obtain ⟨its, _, ht, _⟩ := I.tuple hS; unfold eqW at he; cases he; exact SeqAt.RcNeAt.bool_tuple i ht hu0
    | loc z => unfold eqW at he; cases he
  | int i =>
    cases ra.intE; obtain ⟨t', rfl⟩ := ru
    cases b with
    | non => cases rb.nonE; cases rv; unfold eqW at he; cases he; exact SeqAt.RcNeAt.int_none i t'
    | bl z => cases rb.blE; cases rv; unfold eqW at he; cases he; exact SeqAt.RcNeAt.int_bool i t' z
    | int z => cases rb.intE; obtain ⟨t, rfl⟩ := rv; unfold eqW at he; cases he; exact SeqAt.RcNeAt.int_int i t' z t
    | str z => cases rb.strE; obtain ⟨t, rfl⟩ := rv; unfold eqW at he; cases he; exact SeqAt.RcNeAt.int_str i t' _ t
    | tup z => obtain ⟨p, vs, rfl, hS, _⟩ := rb.tupE; cases rv; obtain ⟨its, _, ht, _⟩ := I.tuple hS; unfold eqW at he; cases he; exact SeqAt.RcNeAt.int_tuple i t' ht hu0
    | loc z => unfold eqW at he; cases he
  | str i =>
    cases ra.strE; obtain ⟨t', rfl⟩ := ru
    cases b with
    | non => cases rb.nonE; cases rv; unfold eqW at he; cases he; exact SeqAt.RcNeAt.str_none _ t'
    | bl z => cases rb.blE; cases rv; unfold eqW at he; cases he; exact SeqAt.RcNeAt.str_bool _ t' z
    | int z => cases rb.intE; obtain ⟨t, rfl⟩ := rv; unfold eqW at he; cases he; exact SeqAt.RcNeAt.str_int _ t' z t
    | str z =>
      cases rb.strE; obtain ⟨t, rfl⟩ := rv; unfold eqW at he; cases he
      have := SeqAt.RcNeAt.str_str (A := A) (s := s) (tx i) t' (tx z) t
      rw [← SeqAt.str_beq] at this
      exact this
    | tup z => obtain ⟨p, vs, rfl, hS, _⟩ := rb.tupE; cases rv; obtain ⟨its, _, ht, _⟩ := I.tuple hS; unfold eqW at he; cases he; exact SeqAt.RcNeAt.str_tuple _ t' ht hu0
    | loc z => unfold eqW at he; cases he
  | tup i =>
    obtain ⟨p', vs', rfl, hS', r'⟩ := ra.tupE; cases ru; obtain ⟨its', w', ht', _⟩ := I.tuple hS'
    cases b with
    | non => cases rb.nonE; cases rv; unfold eqW at he; cases he; exact SeqAt.RcNeAt.tuple_none ht' hu0
    | bl z => cases rb.blE; cases rv; unfold eqW at he; cases he; exact SeqAt.RcNeAt.tuple_bool z ht' hu0
    | int z => cases rb.intE; obtain ⟨t, rfl⟩ := rv; unfold eqW at he; cases he; exact SeqAt.RcNeAt.tuple_int z t ht' hu0
    | str z => cases rb.strE; obtain ⟨t, rfl⟩ := rv; unfold eqW at he; cases he; exact SeqAt.RcNeAt.tuple_str _ t ht' hu0
    | tup z =>
      obtain ⟨p, vs, rfl, hS, r⟩ := rb.tupE; cases rv; obtain ⟨its, w, ht, _⟩ := I.tuple hS
      have he' : eqWs i z = some k := by unfold eqW at he; exact he
      obtain ⟨e, h1, h2⟩ := eqWs_range i z k he'
      have l1 : its'.length = i.length := by rw [← w'.length, ← r'.len]
      have l2 : its.length = z.length := by rw [← w.length, ← r.len]
      have hd : depWs i + 1 ≤ n := by
        rcases hn with hn | hn
        · unfold W.dep at hn; omega
        · unfold W.dep at hn; exact hn
      obtain ⟨m, rfl⟩ : ∃ m, n = m + 1 := ⟨n - 1, by omega⟩
      have R := SeqAt.RcNeAt.tuples (A := A) (e := e) ht' ht hu0 (fun j j1 j2 => by
        have j1' : j < i.length := by rw [← l1]; simpa using j1
        have j2' : j < z.length := by rw [← l2]; simpa using j2
        obtain ⟨x1, g1, q1⟩ := r'.get (List.getElem?_eq_getElem j1')
        obtain ⟨x2, g2, q2⟩ := r.get (List.getElem?_eq_getElem j2')
        obtain ⟨u1, f1, v1⟩ := w'.get g1
        obtain ⟨u2, f2, v2⟩ := w.get g2
        have E := eqAt_W I m i[j] z[j] A.in1 x1 x2 u1 u2 (e j) (Nat.le_trans (depWs_get j1') (by omega)) q1 q2 v1 v2 (by show A.units + 1 + m < cLine; omega) (h1 j j1' j2')
        have t1 : its'.toArray[j] = u1 := by
          have := (List.getElem?_eq_some_iff.mp f1).2
          simpa using this
        have t2 : its.toArray[j] = u2 := by
          have := (List.getElem?_eq_some_iff.mp f2).2
          simpa using this
        rw [t1, t2]; exact E)
      have sz1 : its'.toArray.size = i.length := by simp [l1]
      have sz2 : its.toArray.size = z.length := by simp [l2]
      rw [sz1, sz2, h2] at R
      exact R
    | loc z => unfold eqW at he; cases he
  | loc i => cases b <;> (unfold eqW at he; cases he)
def wNe : W → W → List Cell → R W := fun x y st => match eqW x y with
  | some k => if y.dep = 0 ∨ x.dep ≤ 64 then .ok (.bl (!k)) st else .bad
  | none => .bad
theorem w_ne {X : Cx} {k : Nat} (hr : Room k X.A) : OpW X (compareOp .NotEq) wNe := ⟨fun pins s σ H x y v u Q I rv ru ⟨μ, st, wx, wy, S, rx, ry, q⟩ => by
  unfold wNe at q
  cases e : eqW wx wy with
  | none => rw [e] at q; exact q.elim
  | some b =>
    rw [e] at q
    simp only at q
    by_cases c : wy.dep = 0 ∨ wx.dep ≤ 64
    · rw [if_pos c] at q
      have := hr.units
      exact rcNeAt_W I 64 wx wy X.A x y v u b c rx ry rv ru this e X.prog X.w X.xe _ ⟨.bl (!b), H, I, rfl, okW_bl S q⟩
    · rw [if_neg c] at q; exact q.elim, fun x y st => by
  unfold wNe
  split
  · split <;> trivial
  · trivial⟩
/-- x among the items of a tuple or a list -/
def anyW (x : W) : List W → Option Bool
  | [] => some false
  | y :: ys => match eqW y x, anyW x ys with
    | some a, some b => some (a || b)
    | _, _ => none
def wIn (neg : Bool) (x y : W) (st : List Cell) : R W := match y with
  | .str l => (match x with
    | .str [c] => .ok (.bl (if neg then !decide (c ∈ l) else decide (c ∈ l))) st
    | _ => .bad)
  | .tup ys => (match anyW x ys with
    | some k => if depWs ys ≤ 63 then .ok (.bl (if neg then !k else k)) st else .bad
    | none => .bad)
  | .loc n => (match st[n]? with
    | some (.lst ys) => (match anyW x ys with
      | some k => if depWs ys ≤ 63 then .ok (.bl (if neg then !k else k)) st else .bad
      | none => .bad)
    | _ => .bad)
  | _ => .bad
theorem anyW_all {x : W} : ∀ {ys : List W} {k : Bool}, anyW x ys = some k → (∀ (j : Nat) w, ys[j]? = some w → ∃ b, eqW w x = some b) ∧ (k = true ↔ ∃ (j : Nat) (w : W), ys[j]? = some w ∧ eqW w x = some true)
  | [], k, h => by
    unfold anyW at h; cases h
    exact ⟨fun j w e => by simp at e, fun z => (by cases z), fun ⟨j, w, e, _⟩ => (by simp at e)⟩
  | y :: ys, k, h => by
    unfold anyW at h
    cases e1 : eqW y x with
    | none => rw [e1] at h; simp at h
    | some a =>
      cases e2 : anyW x ys with
      | none => rw [e1, e2] at h; simp at h
      | some b =>
        rw [e1, e2] at h
        simp at h
        obtain ⟨q1, q2⟩ := anyW_all e2
        refine ⟨fun j w e => ?_, fun z => ?_, fun ⟨j, w, e, f⟩ => ?_⟩
        · cases j with
          | zero => simp at e; subst e; exact ⟨a, e1⟩
          | succ j => exact q1 j w (by simpa using e)
        · rw [← h] at z
          cases a with
          | true => exact ⟨0, y, rfl, e1⟩
          | false =>
            obtain ⟨j, w, p, q⟩ := q2.mp (by simpa using z)
            exact ⟨j + 1, w, by simpa using p, q⟩
        · rw [← h]
          cases j with
          | zero => simp at e; subst e; rw [e1] at f; cases f; rfl
          | succ j => rw [q2.mpr ⟨j, w, by simpa using e, f⟩]; simp
theorem anyW_items {X : Cx} {pins : List (Addr × Obj)} {σ : St} {H : Hp} {s : Shared} {μ : List Addr} (I : Inv X pins σ H s) {wx : W} {x : V} {v : Value} (rx : RelW X.K μ H wx x) (rv : RelV x v) (n : Nat) {A : Around} (hu : A.units + n < cLine)
    {ys : List W} {vs : List V} {us : List Value} {k : Bool} (hd : depWs ys ≤ n) (rs : RelWs X.K μ H ys vs) (rw' : Vals vs us) (ha : anyW wx ys = some k) : ∃ e : Value → Bool, (∀ u, u ∈ us.toArray → SeqAt.EqAt A s u v (e u)) ∧ us.toArray.any e = k := by
  classical
  obtain ⟨q1, q2⟩ := anyW_all ha
  have at' : ∀ (j : Nat) (u : Value), us[j]? = some u → ∃ w b, ys[j]? = some w ∧ eqW w wx = some b ∧ SeqAt.EqAt A s u v b := fun j u e => by
    have hj : j < ys.length := by
      have h1 := (List.getElem?_eq_some_iff.mp e).1
      rw [rs.len, rw'.length]; exact h1
    obtain ⟨b, hb⟩ := q1 j ys[j] (List.getElem?_eq_getElem hj)
    obtain ⟨y, g1, r1⟩ := rs.get (List.getElem?_eq_getElem hj)
    obtain ⟨u', f1, v1⟩ := rw'.get g1
    rw [e] at f1; cases f1
    exact ⟨_, b, List.getElem?_eq_getElem hj, hb, eqAt_W I n ys[j] wx A y x u v b (Nat.le_trans (depWs_get hj) hd) r1 rx v1 rv hu hb⟩
  refine ⟨fun u => decide (∃ (j : Nat) (w : W), us[j]? = some u ∧ ys[j]? = some w ∧ eqW w wx = some true), fun u hu => ?_, ?_⟩
  · by_cases c : ∃ (j : Nat) (w : W), us[j]? = some u ∧ ys[j]? = some w ∧ eqW w wx = some true
    · show SeqAt.EqAt A s u v (decide _)
      rw [decide_eq_true c]
      obtain ⟨j, w, e1, e2, e3⟩ := c
      obtain ⟨w', b, f1, f2, f3⟩ := at' j u e1
      rw [e2] at f1; cases f1
      rw [e3] at f2; cases f2
      exact f3
    · show SeqAt.EqAt A s u v (decide _)
      rw [decide_eq_false c]
      obtain ⟨j, hj, e⟩ := List.mem_iff_getElem.mp (show u ∈ us by simpa using hu)
      have e' : us[j]? = some u := by rw [List.getElem?_eq_getElem hj, e]
      obtain ⟨w', b, f1, f2, f3⟩ := at' j u e'
      cases b with
      | false => exact f3
      | true => exact absurd ⟨j, w', e', f1, f2⟩ c
  · rw [List.any_toArray]
    cases k with
    | true =>
      obtain ⟨j, w, e1, e2⟩ := q2.mp rfl
      have hj : j < us.length := by rw [← rw'.length, ← rs.len]; exact (List.getElem?_eq_some_iff.mp e1).1
      exact List.any_eq_true.mpr ⟨us[j], List.getElem_mem hj, decide_eq_true ⟨j, w, List.getElem?_eq_getElem hj, e1, e2⟩⟩
    | false =>
      refine List.any_eq_false.mpr fun u _ c => ?_
      obtain ⟨j, w, _, e1, e2⟩ := of_decide_eq_true c
      have := q2.mpr ⟨j, w, e1, e2⟩
      cases this
theorem w_in {X : Cx} {k : Nat} (hr : Room k X.A) : OpW X (compareOp .In) (wIn false) := ⟨fun pins s σ H x y v u Q I rv ru ⟨μ, st, wx, wy, S, rx, ry, q⟩ => by
  have hu := hr.units
  cases wy with
  | str l =>
    simp only [wIn] at q
    split at q
    · exact op_in_one pins s σ H x y v u Q I rv ru ⟨_, _, rx.strE, ry.strE, okW_bl S q⟩
    · exact q.elim
  | tup ys =>
    simp only [wIn] at q
    cases hk : anyW wx ys with
    | none => rw [hk] at q; exact q.elim
    | some kk =>
      rw [hk] at q
      simp only at q
      by_cases c : depWs ys ≤ 63
      · rw [if_pos c] at q
        obtain ⟨p, vs, rfl, hS, r⟩ := ry.tupE
        cases ru
        obtain ⟨its, w, ht, _⟩ := I.tuple hS
        obtain ⟨e, he, ha⟩ := anyW_items (A := X.A.in1) I rx rv 63 (by show X.A.units + 1 + 63 < cLine; omega) c r w hk
        exact SeqAt.in_tupleAt e ht he ⟨.bl _, H, I, rfl, by rw [ha]; exact okW_bl S q⟩
      · rw [if_neg c] at q; exact q.elim
  | loc n =>
    simp only [wIn] at q
    cases e1 : st[n]? with
    | none => rw [e1] at q; exact q.elim
    | some cc =>
      rw [e1] at q
      cases cc with
      | lst ys =>
        simp only at q
        cases hk : anyW wx ys with
        | none => rw [hk] at q; exact q.elim
        | some kk =>
          rw [hk] at q
          simp only at q
          by_cases c : depWs ys ≤ 63
          · rw [if_pos c] at q
            obtain ⟨a1, g1, vs, k1, r⟩ := S.get e1
            obtain ⟨b1, f1, rfl⟩ := ry.locE
            rw [g1] at f1; cases f1
            cases ru
            obtain ⟨its, w, ht, _⟩ := I.list (SqL.of k1)
            obtain ⟨e, he, ha⟩ := anyW_items (A := X.A.in1) I rx rv 63 (by show X.A.units + 1 + 63 < cLine; omega) c r w hk
            exact SeqAt.in_listAt e ht.isList he ⟨.bl _, H, I, rfl, by rw [ha]; exact okW_bl S q⟩
          · rw [if_neg c] at q; exact q.elim
      | _ => exact q.elim
  | _ => exact q.elim, fun x y st => by
  unfold wIn
  repeat' split
  all_goals trivial⟩
theorem w_nin {X : Cx} {k : Nat} (hr : Room k X.A) : OpW X (compareOp .NotIn) (wIn true) := ⟨fun pins s σ H x y v u Q I rv ru ⟨μ, st, wx, wy, S, rx, ry, q⟩ => by
  have hu := hr.units
  cases wy with
  | str l =>
    simp only [wIn] at q
    split at q
    · exact op_notin_one pins s σ H x y v u Q I rv ru ⟨_, _, rx.strE, ry.strE, okW_bl S q⟩
    · exact q.elim
  | tup ys =>
    simp only [wIn] at q
    cases hk : anyW wx ys with
    | none => rw [hk] at q; exact q.elim
    | some kk =>
      rw [hk] at q
      simp only at q
      by_cases c : depWs ys ≤ 63
      · rw [if_pos c] at q
        obtain ⟨p, vs, rfl, hS, r⟩ := ry.tupE
        cases ru
        obtain ⟨its, w, ht, _⟩ := I.tuple hS
        obtain ⟨e, he, ha⟩ := anyW_items (A := X.A.in1) I rx rv 63 (by show X.A.units + 1 + 63 < cLine; omega) c r w hk
        exact SeqAt.notIn_tupleAt e ht he ⟨.bl _, H, I, rfl, by rw [ha]; exact okW_bl S q⟩
      · rw [if_neg c] at q; exact q.elim
  | loc n =>
    simp only [wIn] at q
    cases e1 : st[n]? with
    | none => rw [e1] at q; exact q.elim
    | some cc =>
      rw [e1] at q
      cases cc with
      | lst ys =>
        simp only at q
        cases hk : anyW wx ys with
        | none => rw [hk] at q; exact q.elim
        | some kk =>
          rw [hk] at q
          simp only at q
          by_cases c : depWs ys ≤ 63
          · rw [if_pos c] at q
            obtain ⟨a1, g1, vs, k1, r⟩ := S.get e1
            obtain ⟨b1, f1, rfl⟩ := ry.locE
            rw [g1] at f1; cases f1
            cases ru
            obtain ⟨its, w, ht, _⟩ := I.list (SqL.of k1)
            obtain ⟨e, he, ha⟩ := anyW_items (A := X.A.in1) I rx rv 63 (by show X.A.units + 1 + 63 < cLine; omega) c r w hk
            exact SeqAt.notIn_listAt e ht.isList he ⟨.bl _, H, I, rfl, by rw [ha]; exact okW_bl S q⟩
          · rw [if_neg c] at q; exact q.elim
      | _ => exact q.elim
  | _ => exact q.elim, fun x y st => by
  unfold wIn
  repeat' split
  all_goals trivial⟩
end L2
set_option Elab.async false
set_option linter.all false
set_option maxRecDepth 100000
set_option maxHeartbeats 4000000
namespace L2
open PySem PySem.Spec PyProof.Rows
section
variable {prog : Program} {w : World} {A : Around} {E : Value → Shared → Prop} {s : Shared}
theorem slice_whole {t sl : Addr} {items : Array Value} {vl vu : Value} {lo hi : Option Int} {Q : Value → Shared → Prop} (ht : IsTup s.heap t items) (hs : s.heap.IsSliceOf sl vl vu .none) (pl : IsPart vl lo) (pu : IsPart vu hi)
    (hw : HT.sIx items.size 0 lo = 0 ∧ HT.sIx items.size items.size hi = items.size) (h : Q (.ref t) s) : wpAny (model prog w) A (getItem (.ref t) (.ref sl)) Q E s := by
  obtain ⟨os, hos, hcs, hds⟩ := id hs
  have hTs : s.TypeIs (.ref sl) "slice" := ⟨os, hos, hcs⟩
  unfold getItem
  try with_reducible refine wpAny_holding ?_
  first | refine wpAny_bind (wpAny_pure ?_) | skip
  refine wpAny_bind (wpAny_sequenceKey ht.typeIs (by decide) ?_)
  refine wpAny_bind (wpAny_callSpecial?_slot (name := Str.ofString "__getitem__") ht.typeIs PyProof.Rows.slot_tuple_getitem
    (wpAny_call_entry PyProof.Rows.slot_tuple_getitem ht.typeIs entry_tuple_getitem ?_ (args_tuple_getitem _ _)))
  show wpAny _ _ (Builtin.Tuple.tupleItemsOf (.ref t) >>= _) _ _ s
  refine wpAny_bind (tupleItemsOf_ ht ?_)
  refine wpAny_bind (wpAny_typeOf hTs ?_)
  rw [if_pos (by decide)]
  refine wpAny_bind (HT.sliceApplied_gen hs pl pu ?_)
  have hyes : (((HT.sIx items.size 0 lo : Nat) : Int) == 0 && (1 : Int) == 1 && (HT.sIx items.size items.size hi - HT.sIx items.size 0 lo) == items.size) = true := by
    rw [hw.1, hw.2]; simp
  show wpAny _ _ (if (((HT.sIx items.size 0 lo : Nat) : Int) == 0 && (1 : Int) == 1 && (HT.sIx items.size items.size hi - HT.sIx items.size 0 lo) == items.size) = true then _ else _) _ _ s
  rw [if_pos hyes]
  unfold Builtin.Tuple.tupleIsExact
  obtain ⟨ot, hot, hct, nt, hdt⟩ := id ht
  refine wpAny_bind (wpAny_bind (wpAny_typeOf (T := "tuple") ht.typeIs ?_))
  refine wpAny_pure ?_
  rw [if_pos (by decide)]
  exact wpAny_bind (wpAny_rule (wpAny_pure ⟨_, rfl, wpAny_pure h⟩))
end
section
variable {X : Cx} {a b c e o : Expr} {es : List Expr} {pos p p2 apos cpos : Pos} {x name : Str} {j : Nat} {fa fb fc fe : FE} {fs : FA}
def lstOf (st : List Cell) (n : Nat) : Option (List W) := match st[n]? with
  | some (.lst ws) => some ws
  | some (.ro ws) => some ws
  | _ => none
theorem StR.lstOf {K : PySem.W.Frag} {mg : Str → Option Value} {μ : List Addr} {st : List Cell} {H : Hp} (S : StR K mg μ st H) {n : Nat} {ws : List W} (h : lstOf st n = some ws) : ∃ a vs, μ[n]? = some a ∧ SqL K H a vs ∧ RelWs K μ H ws vs := by
  unfold L2.lstOf at h
  cases e : st[n]? with
  | none => rw [e] at h; cases h
  | some cc =>
    rw [e] at h
    cases cc with
    | lst zs => cases h; obtain ⟨a, g, vs, k, r⟩ := S.get e; exact ⟨a, vs, g, SqL.of k, r⟩
    | ro zs => cases h; obtain ⟨a, g, vs, k, r⟩ := S.get e; exact ⟨a, vs, g, k.sq, r⟩
    | exc zs => cases h
def ofO {α : Type} (o : Option α) (k : α → R W) : R W := match o with
  | some a => k a
  | none => .bad
@[simp] theorem ofO_some {α : Type} (a : α) (k : α → R W) : ofO (some a) k = k a := rfl
@[simp] theorem ofO_none {α : Type} (k : α → R W) : ofO none k = .bad := rfl
def wIx (x y : W) (st : List Cell) : R W := match x, y with
  | .tup ws, .int i => ofO (atI ws i) fun w => .ok w st
  | .str l, .int i => if l.length ≤ LIM then ofO (atI l i) (fun c => .ok (.str [c]) st) else .bad
  | .loc n, .int i => ofO (lstOf st n) fun ws => ofO (atI ws i) fun w => .ok w st
  | _, _ => .bad
theorem atI_rel {K : PySem.W.Frag} {μ : List Addr} {H : Hp} {ws : List W} {vs : List V} {i : Int} {w : W} (r : RelWs K μ H ws vs) (h : atI ws i = some w) : ∃ v, atI vs i = some v ∧ RelW K μ H w v := by
  unfold atI at h ⊢
  rw [← r.len]
  cases e : ixN ws.length i with
  | none => rw [e] at h; cases h
  | some k => rw [e] at h; exact r.get h
theorem w_ix : IxR X (rW2 X wIx) := fun value slice pins s σ H x y v u Q I rv ru ⟨μ, st, wx, wy, S, rx, ry, q⟩ hs => by
  refine ix_seq value slice pins s σ H x y v u Q I rv ru ?_ hs
  cases wy with
  | int i =>
    cases wx with
    | tup ws =>
      simp only [wIx] at q
      cases e1 : atI ws i with
      | none => rw [e1] at q; exact q.elim
      | some w =>
        rw [e1] at q
        obtain ⟨p, vs, rfl, hS, r⟩ := rx.tupE
        obtain ⟨z, f, g⟩ := atI_rel r e1
        exact .inr (.inl ⟨p, vs, i, z, rfl, ry.intE, hS, f, q μ z H (List.prefix_refl _) Ext.refl S g⟩)
    | str l =>
      simp only [wIx] at q
      by_cases c : l.length ≤ LIM
      · rw [if_pos c] at q
        cases e1 : atI l i with
        | none => rw [e1] at q; exact q.elim
        | some w =>
          rw [e1] at q
          exact .inr (.inr ⟨_, i, w, rx.strE, ry.intE, by rw [tx_len]; exact lim_le c, by rw [tx_cps]; exact e1, okW_str S q⟩)
      · rw [if_neg c] at q; exact q.elim
    | loc n =>
      simp only [wIx] at q
      cases e0 : lstOf st n with
      | none => rw [e0] at q; exact q.elim
      | some ws =>
        rw [e0] at q
        cases e1 : atI ws i with
        | none => rw [ofO_some, e1] at q; exact q.elim
        | some w =>
          rw [ofO_some, e1] at q
          obtain ⟨a, vs, g, hS, r⟩ := S.lstOf e0
          obtain ⟨b1, f1, rfl⟩ := rx.locE
          rw [g] at f1; cases f1
          obtain ⟨z, f, g⟩ := atI_rel r e1
          exact .inl ⟨_, vs, i, z, rfl, ry.intE, hS, f, q μ z H (List.prefix_refl _) Ext.refl S g⟩
    | _ => exact q.elim
  | _ => cases wx <;> exact q.elim
theorem ofO_n {α : Type} {o : Option α} {k : α → R W} (h : ∀ a, noEx (k a)) : noEx (ofO o k) := by
  unfold ofO
  split
  · exact h _
  · trivial
theorem wIx_n (x y : W) (st : List Cell) : noEx (wIx x y st) := by
  unfold wIx
  split
  · exact ofO_n fun _ => trivial
  · split
    · exact ofO_n fun _ => trivial
    · trivial
  · exact ofO_n fun _ => ofO_n fun _ => trivial
  · trivial
theorem s_ix (ha : SE X a fa) (hb : SE X b fb) (hs : PlainIx b := by intro _ _; rfl) : SE X (.Subscript a b pos) (e2 wIx fa fb) := ⟨(pe_ix w_ix ha.h hb.h hs).imp fun _ _ _ h => e2_op wIx_n h⟩
abbrev FO := EnvW → List Cell → R (Option Int)
abbrev relO : List Addr → Hp → Option Int → Option Int → Prop := fun _ _ a b => a = b
structure SO (X : Cx) (e : Option Expr) (f : FO) : Prop where
  h : PO X e (tG X relO f)
def oNone : FO := fun _ st => .ok none st
def oSome (fa : FE) : FO := fun ρ st => (fa ρ st).bind fun x st => match x with
  | .int i => .ok (some i) st
  | _ => .bad
theorem PO.imp {X : Cx} {e : Option Expr} {t t' : TO} (h : PO X e t) (i : ∀ σ H Q, t' σ H Q → t σ H Q) : PO X e t' := fun pins s σ H Q I q => h pins s σ H Q I (i _ _ _ q)
theorem so_none : SO X none oNone := ⟨po_none.imp fun σ H Q h => by
  obtain ⟨μ, ρ, st, l, h⟩ := h
  exact h μ none H (List.prefix_refl _) Ext.refl l.sto rfl⟩
theorem so_some (ha : SE X a fa) : SO X (some a) (oSome fa) := ⟨(po_some ha.h).imp fun σ H Q h => by
  obtain ⟨μ, ρ, st, l, h⟩ := h
  refine ⟨μ, ρ, st, l, RK.bind h l fun μ1 st1 x v H1 p1 x1 l1 q1 h1 => ?_⟩
  cases x with
  | int k => exact ⟨k, q1.intE, h1 μ1 _ H1 (List.prefix_refl _) Ext.refl l1.sto rfl⟩
  | _ => exact h1.elim⟩
def cutW {α : Type} (xs : List α) (lo hi : Option Int) : List α := (xs.drop (HT.sIx xs.length 0 lo)).take (HT.sIx xs.length xs.length hi - HT.sIx xs.length 0 lo)
def wSl (x : W) (lo hi : Option Int) (st : List Cell) : R W := match x with
  | .tup ws => .ok (.tup (cutW ws lo hi)) st
  | .str l => if l.length ≤ LIM then .ok (.str (cutW l lo hi)) st else .bad
  | .loc n => ofO (lstOf st n) fun ws => .ok (.loc st.length) (st ++ [.lst (cutW ws lo hi)])
  | _ => .bad
theorem wSl_n (x : W) (lo hi : Option Int) (st : List Cell) : noEx (wSl x lo hi st) := by
  unfold wSl ofO
  repeat' split
  all_goals trivial
def eSl (fa : FE) (fl fh : FO) : FE := fun ρ st => (fa ρ st).bind fun x st => (fl ρ st).bind fun l st => (fh ρ st).bind fun h st => wSl x l h st
theorem w_sl : SlR X (fun x lo hi H Q => ∃ μ st wx, StR X.K X.mg μ st H ∧ RelW X.K μ H wx x ∧ OkW X μ H Q (wSl wx lo hi st)) := by
  intro pins s σ H x v vl vu lo hi sl Q I rv hs pl pu ⟨μ, st, wx, S, rx, q⟩
  cases wx with
  | tup ws =>
    obtain ⟨p, vs, rfl, hS, r⟩ := rx.tupE
    have hl := r.len
    by_cases hw : HT.sIx vs.length 0 lo = 0 ∧ HT.sIx vs.length vs.length hi = vs.length
    · cases rv
      obtain ⟨its, w, ht, hz⟩ := I.tuple hS
      have hlen : its.toArray.size = vs.length := by rw [List.size_toArray]; exact w.length.symm
      refine ⟨"tuple", _, PyProof.Rows.slot_tuple_getitem.lookup, ht.typeIs, slice_whole ht hs pl pu (by rw [hlen]; exact hw) ⟨.ref p, H, I, rfl, ?_⟩⟩
      have e : cutW ws lo hi = ws := by
        unfold cutW
        rw [hl, hw.1, hw.2, List.drop_zero, Nat.sub_zero, ← hl, List.take_length]
      have q' : OkW X μ H Q (.ok (.tup (cutW ws lo hi)) st) := q
      rw [e] at q'
      exact q' μ _ H (List.prefix_refl _) Ext.refl S rx
    · refine sl_tup pins s σ H _ v vl vu lo hi sl Q I rv hs pl pu ⟨p, vs, rfl, hS, hw, fun p2 hp2 => ?_⟩
      have x := SqT.same (K := X.K) (same_new hp2 (.tup (cutV vs lo hi)))
      have rc : RelWs X.K μ H (cutW ws lo hi) (cutV vs lo hi) := by
        unfold cutW cutV
        rw [hl]
        exact (r.drop _).take _
      exact q μ _ _ (List.prefix_refl _) x (S.same (same_new hp2 _)) (.tupI SqT.new (rc.mono (List.prefix_refl _) x))
  | str l =>
    simp only [wSl] at q
    by_cases c : l.length ≤ LIM
    · rw [if_pos c] at q
      exact sl_str pins s σ H _ v vl vu lo hi sl Q I rv hs pl pu ⟨l, rx.strE, lim_le c, okW_str S q⟩
    · rw [if_neg c] at q; exact q.elim
  | loc n =>
    simp only [wSl] at q
    cases e0 : lstOf st n with
    | none => rw [e0] at q; exact q.elim
    | some ws =>
      rw [e0] at q
      obtain ⟨a, vs, g, hS, r⟩ := S.lstOf e0
      obtain ⟨b1, f1, rfl⟩ := rx.locE
      rw [g] at f1; cases f1
      have hl := r.len
      refine sl_list pins s σ H _ v vl vu lo hi sl Q I rv hs pl pu ⟨_, vs, rfl, hS, fun p2 hp2 => ?_⟩
      have rc : RelWs X.K μ H (cutW ws lo hi) (cutV vs lo hi) := by
        unfold cutW cutV
        rw [hl]
        exact (r.drop _).take _
      exact q (μ ++ [p2]) _ _ (List.prefix_append _ _) (SqT.same (same_new hp2 _)) (S.newLst hp2 rc) (newLoc S)
  | _ => exact q.elim
theorem s_sl {lo hi : Option Expr} {fl fh : FO} (ha : SE X a fa) (hl : SO X lo fl) (hh : SO X hi fh) : SE X (.Subscript a (.Slice lo hi none p2) pos) (eSl fa fl fh) := ⟨(pe_slice w_sl ha.h hl.h hh.h).imp fun σ H Q h => by
  obtain ⟨μ, ρ, st, l, h⟩ := h
  refine ⟨μ, ρ, st, l, RK.bind h l fun μ1 st1 x v H1 p1 x1 l1 q1 h1 => ⟨μ1, ρ, st1, l1, RK.bind h1 l1 fun μ2 st2 y u H2 p2 x2 l2 q2 h2 => ⟨μ2, ρ, st2, l2, RK.bind h2 l2 fun μ3 st3 z t H3 p3 x3 l3 q3 h3 => ?_⟩⟩⟩
  cases q2; cases q3
  exact ⟨μ3, st3, x, l3.sto, (q1.mono p2 x2).mono p3 x3, okW_of h3 (wSl_n _ _ _ _)⟩⟩
def rWA (X : Cx) (F : List W → List Cell → R W) : List V → Hp → VK → Prop := fun vs H Q => ∃ μ st ws, StR X.K X.mg μ st H ∧ RelWs X.K μ H ws vs ∧ OkW X μ H Q (F ws st)
structure CallW (X : Cx) (f : Value) (F : List W → List Cell → R W) : Prop where
  h : CallR X f (rWA X F)
  n : ∀ ws st, noEx (F ws st)
def eCall (F : List W → List Cell → R W) (fs : FA) : FE := fun ρ st => (fs ρ st).bind fun ws st => F ws st
theorem eCall_t {F : List W → List Cell → R W} {σ : St} {H : Hp} {Q : VK} (n : ∀ ws st, noEx (F ws st)) (h : tE X (eCall F fs) σ H Q) : tCB (rWA X F) (tA' X fs) σ H Q := by
  obtain ⟨μ, ρ, st, l, h⟩ := h
  exact ⟨μ, ρ, st, l, RK.bind h l fun μ1 st1 x v H1 p1 x1 l1 q1 h1 => ⟨μ1, st1, x, l1.sto, q1, okW_of h1 (n _ _)⟩⟩
theorem s_callB {id : String} {F : List W → List Cell → R W} (hc : CallW X (.builtin id) F) (hm : X.mg x = none) (hv : bootBuiltins x = some (.builtin id)) (ha : SA X (e :: es) fs) (hg : Gl X x := by rfl) (hn : x ≠ "__name__" := by decide) (hdb : (x == ("__debug__" : Str)) = false := by decide)
    (he : starEach (e :: es) X.env = (false, eval e X.env) :: starEach es X.env := by rfl) (hpl : (backTo pos (starEach es X.env)).any (·.1) = false := by rfl) : SE X (.Call (.Name x p) (e :: es) [] pos) (eCall F fs) := ⟨(pe_callB hc.h hg hm hv ha.h hn hdb he hpl).imp fun _ _ _ h => eCall_t hc.n h⟩
theorem RelWs.two {K : PySem.W.Frag} {μ : List Addr} {H : Hp} {a b : W} {vs : List V} (r : RelWs K μ H [a, b] vs) : ∃ x y, vs = [x, y] ∧ RelW K μ H a x ∧ RelW K μ H b y := by
  obtain ⟨x, xs, rfl, rx, rn⟩ := r.consE
  obtain ⟨y, ys, rfl, ry, rm⟩ := rn.consE
  rw [rm.nilE]; exact ⟨x, y, rfl, rx, ry⟩
theorem RelWs.one {K : PySem.W.Frag} {μ : List Addr} {H : Hp} {a : W} {vs : List V} (r : RelWs K μ H [a] vs) : ∃ x, vs = [x] ∧ RelW K μ H a x := by
  obtain ⟨x, xs, rfl, rx, rn⟩ := r.consE
  rw [rn.nilE]; exact ⟨x, rfl, rx⟩
def bLen (ws : List W) (st : List Cell) : R W := match ws with
  | [.tup xs] => .ok (.int xs.length) st
  | [.str l] => if l.length ≤ LIM then .ok (.int l.length) st else .bad
  | [.loc n] => ofO (lstOf st n) fun xs => .ok (.int xs.length) st
  | _ => .bad
theorem b_len : CallW X (.builtin "len") bLen := ⟨fun pins s σ H vs us Q I rv ⟨μ, st, ws, S, r, q⟩ => by
  unfold bLen at q
  split at q
  · obtain ⟨x, rfl, rx⟩ := r.one
    obtain ⟨p, ys, rfl, hS, r'⟩ := rx.tupE
    exact call_len_seq pins s σ H _ us Q I rv ⟨p, ys, rfl, .inr hS, by rw [← r'.len]; exact okW_int S q⟩
  · obtain ⟨x, rfl, rx⟩ := r.one
    split at q
    · rename_i c
      exact call_len_str pins s σ H _ us Q I rv ⟨_, by rw [rx.strE], by rw [tx_len]; exact lim_le c, by rw [tx_len]; exact okW_int S q⟩
    · exact q.elim
  · obtain ⟨x, rfl, rx⟩ := r.one
    unfold ofO at q
    split at q
    · rename_i ys e0
      obtain ⟨a, vs, g, hS, r'⟩ := S.lstOf e0
      obtain ⟨b1, f1, rfl⟩ := rx.locE
      rw [g] at f1; cases f1
      exact call_len_seq pins s σ H _ us Q I rv ⟨_, vs, rfl, .inl hS, by rw [← r'.len]; exact okW_int S q⟩
    · exact q.elim
  · exact q.elim, fun ws st => by
  unfold bLen ofO
  repeat' split
  all_goals trivial⟩
end
end L2
set_option Elab.async false
set_option linter.all false
set_option maxRecDepth 100000
set_option maxHeartbeats 4000000
namespace L2
open PySem PySem.Spec PyProof.Rows
section
variable {X : Cx} {a b c e o : Expr} {es : List Expr} {pos p p2 apos cpos : Pos} {x name : Str} {j : Nat} {fa fb fc fe : FE} {fs : FA} {ft : FT} {st1 : Stmt} {sr sa sb : List Stmt} {g g' : FS}
def xSeq (g g' : FS) : FS := fun ρ st => match g ρ st with
  | .nx ρ' st' => g' ρ' st'
  | r => r
def xNext : FS := fun ρ st => .nx ρ st
theorem sb_nil : SB X [] xNext := ⟨pss_nil.imp fun D σ H h => by
  obtain ⟨μ, ρ, st, l, h⟩ := h
  exact h μ σ H (List.prefix_refl _) Ext.refl l⟩
theorem sb_one (h1 : SS X st1 g) : SB X [st1] g := ⟨pss_one h1.h⟩
theorem sb_cons (h1 : SS X st1 g) (h2 : SB X sr g') : SB X (st1 :: sr) (xSeq g g') := ⟨(pss_cons h1.h h2.h).imp fun D σ H h => by
  obtain ⟨μ, ρ, st, l, h⟩ := h
  refine ⟨μ, ρ, st, l, ?_⟩
  unfold xSeq at h
  cases e : g ρ st with
  | nx ρ' st' => rw [e] at h; exact fun μ' σ' H' p x l' => ⟨μ', ρ', st', l', SK.mono h p x⟩
  | rt w st' => rw [e] at h; exact h
  | bk ρ' st' => rw [e] at h; exact h
  | ct ρ' st' => rw [e] at h; exact h
  | ex c ρ' st' => rw [e] at h; exact h
  | bad => rw [e] at h; exact h⟩
def R.stmt {α : Type} (r : R α) (ρ : EnvW) (k : α → List Cell → RS) : RS := match r with
  | .ok a st => k a st
  | .ex c st => .ex c ρ st
  | .bad => .bad
@[simp] theorem R.stmt_ok {α : Type} (a : α) (st : List Cell) (ρ : EnvW) (k : α → List Cell → RS) : (R.ok a st).stmt ρ k = k a st := rfl
@[simp] theorem R.stmt_ex {α : Type} (c : Str) (st : List Cell) (ρ : EnvW) (k : α → List Cell → RS) : (R.ex c st : R α).stmt ρ k = .ex c ρ st := rfl
@[simp] theorem R.stmt_bad {α : Type} (ρ : EnvW) (k : α → List Cell → RS) : (R.bad : R α).stmt ρ k = .bad := rfl
/-- a part within a statement -/
theorem RK.stmt {α β : Type} {rel : List Addr → Hp → α → β → Prop} {μ : List Addr} {ρ : EnvW} {st : List Cell} {σ : St} {H : Hp} {D : Ends} {r : R α} {k : α → List Cell → RS} {T : β → Hp → Prop}
    (h : SK X μ H D (r.stmt ρ k)) (l : Rl X μ ρ st σ H)
    (hk : ∀ μ' st' x v H', μ <+: μ' → Ext X.K H H' → Rl X μ' ρ st' σ H' → rel μ' H' x v → SK X μ' H' D (k x st') → T v H') : RK X rel μ σ H T r := by
  cases r with
  | ok a st' => exact fun μ' b H' p x s q => hk μ' st' a b H' p x (l.to p x s) q (SK.mono h p x)
  | ex c st' => exact XS.toE h l
  | bad => exact h
def xExpr (fe : FE) : FS := fun ρ st => (fe ρ st).stmt ρ fun _ st => .nx ρ st
theorem ss_expr (he : SE X e fe) (hs : swapsWith e none pos.line X.env = pure false := by rfl) : SS X (.Expr e pos) (xExpr fe) := ⟨(ps_expr he.h hs).imp fun D σ H h => by
  obtain ⟨μ, ρ, st, l, h⟩ := h
  exact ⟨μ, ρ, st, l, RK.stmt h l fun μ1 st1 x v H1 p1 x1 l1 q1 h1 => h1 μ1 σ H1 (List.prefix_refl _) Ext.refl l1⟩⟩
def xRet (fe : FE) : FS := fun ρ st => (fe ρ st).stmt ρ fun w st => .rt w st
theorem ss_ret (he : SE X e fe) : SS X (.Return (some e) pos) (xRet fe) := ⟨(ps_ret he.h).imp fun D σ H h => by
  obtain ⟨μ, ρ, st, l, h⟩ := h
  exact ⟨μ, ρ, st, l, RK.stmt h l fun μ1 st1 x v H1 p1 x1 l1 q1 h1 => h1 μ1 v H1 (List.prefix_refl _) Ext.refl l1.sto q1⟩⟩
def xIf (t : FT) (g g' : FS) : FS := fun ρ st => (t ρ st).stmt ρ fun k st => if k then g ρ st else g' ρ st
theorem ss_if (hc : ST X c ft) (ha : SB X sa g) (hb : SB X sb g') : SS X (.If c sa sb pos) (xIf ft g g') := ⟨(ps_if hc.h ha.h hb.h).imp fun D σ H h => by
  obtain ⟨μ, ρ, st, l, h⟩ := h
  refine ⟨μ, ρ, st, l, RK.stmt h l fun μ1 st1 x v H1 p1 x1 l1 q1 h1 => ?_⟩
  cases q1
  cases x with
  | true => exact ⟨μ1, ρ, st1, l1, h1⟩
  | false => exact ⟨μ1, ρ, st1, l1, h1⟩⟩
abbrev FG := W → EnvW → Option EnvW
def tTg (X : Cx) (f : FG) : TG := fun v σ H Q => ∃ μ ρ st w ρ', Rl X μ ρ st σ H ∧ RelW X.K μ H w v ∧ f w ρ = some ρ' ∧ ∀ σ', Rl X μ ρ' st σ' H → Q σ' H
theorem PG.imp {X : Cx} {e : Expr} {t t' : TG} (h : PG X e t) (i : ∀ v σ H Q, t' v σ H Q → t v σ H Q) : PG X e t' := fun pins s σ H x u Q I r q => h pins s σ H x u Q I r (i _ _ _ _ q)
theorem PGs.imp {X : Cx} {e : List Expr} {t t' : TGs} (h : PGs X e t) (i : ∀ v σ H Q, t' v σ H Q → t v σ H Q) : PGs X e t' := fun pins s σ H x u Q I r q => h pins s σ H x u Q I r (i _ _ _ _ q)
structure SG (X : Cx) (e : Expr) (f : FG) : Prop where
  h : PG X e (tTg X f)
def gNm (i : Nat) : FG := fun w ρ => some (ρ.set i (some w))
theorem sg_name {i : Nat} (hN : X.N.Nodup) (hi : X.N[i]? = some x) (hx : Loc X.env.scope x) (hf : X.fn x = true ∨ X.env.scope.names.lookup x = some .local := by first | exact .inl rfl | exact .inr rfl | assumption) : SG X (.Name x pos) (gNm i) := ⟨(pg_name hN hi hx hf).imp fun v σ H Q h => by
  obtain ⟨μ, ρ, st, w, ρ', l, r, e, q⟩ := h
  cases e
  exact q _ ⟨envR_set r i l.env, l.sto⟩⟩
def xSet (i : Nat) (fe : FE) : FS := fun ρ st => (fe ρ st).stmt ρ fun w st => .nx (ρ.set i (some w)) st
theorem ss_set {i : Nat} {pos' : Pos} (hN : X.N.Nodup) (hi : X.N[i]? = some x) (hx : Loc X.env.scope x) (he : SE X e fe) (hs : swapsWith e (some (.Name x pos')) pos.line X.env = pure false := by rfl) (hf : X.fn x = true ∨ X.env.scope.names.lookup x = some .local := by first | exact .inl rfl | exact .inr rfl | assumption) :
    SS X (.Assign [.Name x pos'] e pos) (xSet i fe) := ⟨(ps_set hN hi hx he.h hs hf).imp fun D σ H h => by
  obtain ⟨μ, ρ, st, l, h⟩ := h
  exact ⟨μ, ρ, st, l, RK.stmt h l fun μ1 st1 x v H1 p1 x1 l1 q1 h1 => h1 μ1 _ H1 (List.prefix_refl _) Ext.refl ⟨envR_set q1 i l1.env, l1.sto⟩⟩⟩
/-- xs[i] = v of a list -/
def wSetL (x i v : W) (st : List Cell) : Option (List Cell) := match x, i with
  | .loc n, .int k => (match st[n]? with
    | some (.lst ws) => (ixN ws.length k).map fun j => st.set n (.lst (ws.set j v))
    | _ => none)
  | _, _ => none
def xPut (fo fi fe : FE) (f : W → W → W → List Cell → Option (List Cell)) : FS := fun ρ st => (fe ρ st).stmt ρ fun v st => (fo ρ st).stmt ρ fun x st => (fi ρ st).stmt ρ fun i st => match f x i v st with
  | some st' => .nx ρ st'
  | none => .bad
def rWset (X : Cx) (f : W → W → W → List Cell → Option (List Cell)) : TSet := fun o i v H Q => ∃ μ st wo wi wv st', StR X.K X.mg μ st H ∧ RelW X.K μ H wo o ∧ RelW X.K μ H wi i ∧ RelW X.K μ H wv v ∧ f wo wi wv st = some st' ∧ ∀ H', Ext X.K H H' → StR X.K X.mg μ st' H' → Q H'
theorem w_setL : PSet X (rWset X wSetL) := fun pins s σ H o i v ov iv u Q I r1 r2 r3 ⟨μ, st, wo, wi, wv, st', S, ro, ri, rv, e, q⟩ => by
  cases wo with
  | loc n =>
    cases wi with
    | int k =>
      simp only [wSetL] at e
      cases e1 : st[n]? with
      | none => rw [e1] at e; cases e
      | some cc =>
        rw [e1] at e
        cases cc with
        | lst ws =>
          simp only at e
          cases e2 : ixN ws.length k with
          | none => rw [e2] at e; cases e
          | some jj =>
            rw [e2] at e
            cases e
            obtain ⟨a1, g1, vs, k1, r⟩ := S.get e1
            obtain ⟨b1, f1, rfl⟩ := ro.locE
            rw [g1] at f1; cases f1
            refine set_listF pins s σ H _ i v ov iv u Q I r1 r2 r3 ⟨a1, vs, k, jj, rfl, ri.intE, k1, by rw [← r.len]; exact e2, fun H2 eH => ?_⟩
            subst eH
            exact q _ (SqT.but but_upd k1) (S.set e1 g1 k1 (r.setI jj rv))
        | _ => cases e
    | _ => cases e
  | _ => cases wi <;> cases e
theorem ss_put {f : W → W → W → List Cell → Option (List Cell)} {i : Expr} {pos' : Pos} {fi : FE} {fo : FE} (hset : PSet X (rWset X f)) (he : SE X e fe) (ho : SE X o fo) (hi : SE X i fi)
    (ha : ∀ v, assign (.Subscript o i pos') X.env v = (do
      let ov ← holding [v] (eval o X.env)
      let iv ← holding [v, ov] (eval i X.env)
      standAt pos'
      holding [v, ov, iv] (setItem ov iv v)
      release [v, ov, iv] []) := by intro _; rfl)
    (hs : swapsWithSole [.Subscript o i pos'] e pos.line X.env = pure false := by rfl) (hw : swappedStores [.Subscript o i pos'] e X.env = pure none := by rfl) (h1 : (assignEach [.Subscript o i pos'] X.env).map (·.2) = [assign (.Subscript o i pos') X.env] := by rfl) :
    SS X (.Assign [.Subscript o i pos'] e pos) (xPut fo fi fe f) := ⟨(ps_asg he.h (pg_sub ho.h hi.h hset ha) hs hw h1).imp fun D σ H h => by
  obtain ⟨μ, ρ, st, l, h⟩ := h
  refine ⟨μ, ρ, st, l, RK.stmt h l fun μ1 st1 v vv H1 p1 x1 l1 q1 h1 => ⟨μ1, ρ, st1, l1, RK.stmt h1 l1 fun μ2 st2 x xv H2 p2 x2 l2 q2 h2 => ⟨μ2, ρ, st2, l2, RK.stmt h2 l2 fun μ3 st3 i iv H3 p3 x3 l3 q3 h3 => ?_⟩⟩⟩
  cases e1 : f x i v st3 with
  | none => rw [e1] at h3; exact h3.elim
  | some st' =>
    rw [e1] at h3
    exact ⟨μ3, st3, x, i, v, st', l3.sto, q2.mono p3 x3, q3, (q1.mono p2 x2).mono p3 x3, e1, fun H' xx S' => h3 μ3 σ H' (List.prefix_refl _) xx (l3.to (List.prefix_refl _) xx S')⟩⟩
end
end L2
set_option Elab.async false
set_option linter.all false
set_option maxRecDepth 100000
set_option maxHeartbeats 4000000
namespace L2
open PySem PySem.Spec PyProof.Rows
/-- the list that is walked stands as it was -/
def chkOk (st : List Cell) : Option (Nat × List W) → Prop
  | none => True
  | some (n, ws) => lstOf st n = some ws
abbrev Walk := List W × Option (Nat × List W)
abbrev FI := EnvW → List Cell → R Walk
def WalkOk (X : Cx) (J : It) (k : Walk) (μ : List Addr) (H : Hp) : Prop :=
  ∀ (i : Nat) μ' st' H', μ <+: μ' → Ext X.K H H' → StR X.K X.mg μ' st' H' → chkOk st' k.2 →
    (∀ w, k.1[i]? = some w → J.go i H' ∧ ∀ x H'', J.yld i H' x H'' → Ext X.K H' H'' ∧ StR X.K X.mg μ' st' H'' ∧ RelW X.K μ' H'' w x) ∧ (k.1.length ≤ i → J.stop i H')
abbrev relI (X : Cx) : List Addr → Hp → Walk → It → Prop := fun μ H k J => WalkOk X J k μ H
structure SI (X : Cx) (tg it : Expr) (f : FI) : Prop where
  h : PI X tg it (fun σ H R => tG X (relI X) f σ H R)
theorem PI.imp {X : Cx} {tg it : Expr} {t t' : TI} (h : PI X tg it t) (i : ∀ σ H Q, t' σ H Q → t σ H Q) : PI X tg it t' := fun pins s σ H Q I q => h pins s σ H Q I (i _ _ _ q)
open Classical in
noncomputable def forW (f : FG) (body : FS) (ck : Option (Nat × List W)) : List W → FS
  | [], ρ, st => if chkOk st ck then .nx ρ st else .bad
  | w :: ws, ρ, st => if chkOk st ck then (match f w ρ with
    | none => .bad
    | some ρ' => (match body ρ' st with
      | .nx ρ2 st2 => forW f body ck ws ρ2 st2
      | .ct ρ2 st2 => forW f body ck ws ρ2 st2
      | .bk ρ2 st2 => .nx ρ2 st2
      | .rt w st2 => .rt w st2
      | .ex c ρ2 st2 => .ex c ρ2 st2
      | .bad => .bad)) else .bad
noncomputable def xFor (fi : FI) (f : FG) (body : FS) : FS := fun ρ st => (fi ρ st).stmt ρ fun k st => forW f body k.2 k.1 ρ st
section
variable {X : Cx} {a b c e o tg iter : Expr} {es : List Expr} {pos p p2 : Pos} {fa fb fe : FE} {fs : FA} {ft : FT} {body : List Stmt} {g : FS} {f : FG} {fi : FI}
theorem ss_for (hi : SI X tg iter fi) (hg : SG X tg f) (hb : SB X body g) (hc : X.calm = true := by rfl) (hp : PassesOwn (model X.prog X.w) X.A X.env X.xe := by passes_own) (hs : ∀ x, foldedSetIterable iter X.env x = pure x := by intro _; rfl) : SS X (.For tg iter body [] pos) (xFor fi f g) := ⟨(ps_for hp hc hi.h hg.h hb.h hs).imp fun D σ H h => by
  obtain ⟨μ, ρ, st, l, h⟩ := h
  refine ⟨μ, ρ, st, l, RK.stmt h l fun μ1 st1 k J H1 p1 x1 l1 wk h1 => ?_⟩
  refine ⟨fun i m σ' H' => i ≤ k.1.length ∧ m = k.1.length - i ∧ ∃ μ' ρ' st', μ1 <+: μ' ∧ Ext X.K H1 H' ∧ Rl X μ' ρ' st' σ' H' ∧ SK X μ' H' D (forW f g k.2 (k.1.drop i) ρ' st'),
    ⟨_, Nat.zero_le _, rfl, μ1, ρ, st1, List.prefix_refl _, Ext.refl, l1, h1⟩, ?_⟩
  rintro i m σ' H' ⟨hi, rfl, μ', ρ', st', pm, xm, lm, hm⟩
  by_cases hlt : i < k.1.length
  · rw [List.drop_eq_getElem_cons hlt] at hm
    unfold forW at hm
    by_cases ck : chkOk st' k.2
    · rw [if_pos ck] at hm
      obtain ⟨go, yld⟩ := (wk i μ' st' H' pm xm lm.sto ck).1 _ (List.getElem?_eq_getElem hlt)
      cases hf : f k.1[i] ρ' with
      | none => rw [hf] at hm; exact hm.elim
      | some ρ2 =>
        rw [hf] at hm
        simp only at hm
        refine .inr ⟨go, fun σ2 H2 => ∃ μ2 ρ3 st2, μ' <+: μ2 ∧ Ext X.K H' H2 ∧ Rl X μ2 ρ3 st2 σ2 H2 ∧ SK X μ2 H2 D (forW f g k.2 (k.1.drop (i + 1)) ρ3 st2), fun σ2 H2 ⟨μ2, ρ3, st2, q1, q2, q3, q4⟩ =>
          ⟨_, by omega, hlt, rfl, μ2, ρ3, st2, pm.trans q1, xm.trans q2, q3, q4⟩, fun x H2 hy => ?_⟩
        obtain ⟨y1, y2, y3⟩ := yld x H2 hy
        refine ⟨μ', ρ', st', k.1[i], ρ2, lm.to (List.prefix_refl _) y1 y2, y3, hf, fun σ2 l2 => ⟨μ', ρ2, st', l2, ?_⟩⟩
        cases e : g ρ2 st' with
        | nx ρ3 st3 => rw [e] at hm; exact fun μ4 σ4 H4 p4 x4 l4 => ⟨μ4, ρ3, st3, p4, y1.trans x4, l4, SK.mono hm p4 (y1.trans x4)⟩
        | ct ρ3 st3 => rw [e] at hm; exact fun μ4 σ4 H4 p4 x4 l4 => ⟨μ4, ρ3, st3, p4, y1.trans x4, l4, SK.mono hm p4 (y1.trans x4)⟩
        | bk ρ3 st3 => rw [e] at hm; exact fun μ4 σ4 H4 p4 x4 l4 => hm μ4 σ4 H4 p4 (y1.trans x4) l4
        | rt w st3 => rw [e] at hm; exact fun μ4 v4 H4 p4 x4 => hm μ4 v4 H4 p4 (y1.trans x4)
        | ex c ρ3 st3 => rw [e] at hm; exact XS.mono hm (List.prefix_refl _) y1
        | bad => rw [e] at hm; exact hm
    · rw [if_neg ck] at hm; exact hm.elim
  · have hi' : i = k.1.length := by omega
    subst hi'
    rw [List.drop_of_length_le (Nat.le_refl _)] at hm
    unfold forW at hm
    by_cases ck : chkOk st' k.2
    · rw [if_pos ck] at hm
      exact .inl ⟨(wk _ μ' st' H' pm xm lm.sto ck).2 (Nat.le_refl _), hm μ' σ' H' (List.prefix_refl _) Ext.refl lm⟩
    · rw [if_neg ck] at hm; exact hm.elim⟩
def whileW (t : FT) (body : FS) : Nat → FS
  | 0, _, _ => .bad
  | n + 1, ρ, st => (t ρ st).stmt ρ fun k st => if k then (match body ρ st with
      | .nx ρ2 st2 => whileW t body n ρ2 st2
      | .ct ρ2 st2 => whileW t body n ρ2 st2
      | .bk ρ2 st2 => .nx ρ2 st2
      | .rt w st2 => .rt w st2
      | .ex c ρ2 st2 => .ex c ρ2 st2
      | .bad => .bad) else .nx ρ st
open Classical in
noncomputable def xWhile (t : FT) (body : FS) : FS := fun ρ st => if h : ∃ n, whileW t body n ρ st ≠ .bad then whileW t body h.choose ρ st else .bad
theorem whileW_mono (t : FT) (g : FS) : ∀ (n : Nat) (ρ : EnvW) (st : List Cell), whileW t g n ρ st ≠ .bad → whileW t g (n + 1) ρ st = whileW t g n ρ st
  | 0, _, _, h => absurd rfl h
  | n + 1, ρ, st, h => by
    unfold whileW at h ⊢
    cases e : t ρ st with
    | ex c st1 => rfl
    | bad => rfl
    | ok k st1 =>
      rw [e] at h
      simp only [R.stmt_ok] at h ⊢
      cases k with
      | false => rfl
      | true =>
        simp only [if_true] at h ⊢
        cases e2 : g ρ st1 with
        | nx ρ2 st2 => rw [e2] at h; exact whileW_mono t g n ρ2 st2 h
        | ct ρ2 st2 => rw [e2] at h; exact whileW_mono t g n ρ2 st2 h
        | _ => rfl
theorem whileW_le {t : FT} {g : FS} {n m : Nat} {ρ : EnvW} {st : List Cell} (h : whileW t g n ρ st ≠ .bad) (hm : n ≤ m) : whileW t g m ρ st = whileW t g n ρ st := by
  induction hm with
  | refl => rfl
  | @step m _ ih => rw [whileW_mono t g m ρ st (by rw [ih]; exact h), ih]
theorem xWhile_eq {t : FT} {g : FS} {n : Nat} {ρ : EnvW} {st : List Cell} {r : RS} (h : whileW t g n ρ st = r) (hr : r ≠ .bad) : xWhile t g ρ st = r := by
  have hx : ∃ n, whileW t g n ρ st ≠ .bad := ⟨n, by rw [h]; exact hr⟩
  unfold xWhile
  rw [dif_pos hx]
  have c := hx.choose_spec
  have a := whileW_le c (Nat.le_max_left hx.choose n)
  have b := whileW_le (n := n) (m := max hx.choose n) (by rw [h]; exact hr) (Nat.le_max_right _ _)
  rw [← a, b, h]
theorem while_sound {X : Cx} {t : FT} {g : FS} {D : Ends} : ∀ (n : Nat) (σ : St) (H : Hp) (μ : List Addr) (ρ : EnvW) (st : List Cell), Rl X μ ρ st σ H → SK X μ H D (whileW t g n ρ st) → tWhile (tT X t) (tSt X g) D σ H := by
  intro n σ H μ ρ st l h
  refine ⟨fun m σ' H' => ∃ μ' ρ' st', Rl X μ' ρ' st' σ' H' ∧ SK X μ' H' D (whileW t g m ρ' st'), ⟨n, μ, ρ, st, l, h⟩, ?_⟩
  rintro m σ' H' ⟨μ', ρ', st', l', h'⟩
  cases m with
  | zero => exact h'.elim
  | succ m =>
    refine ⟨μ', ρ', st', l', RK.stmt h' l' fun μ1 st1 k v H1 p1 x1 l1 q1 h1 => ?_⟩
    cases q1
    cases k with
    | false => exact h1 μ1 σ' H1 (List.prefix_refl _) Ext.refl l1
    | true =>
      refine ⟨fun σ2 H2 => ∃ μ2 ρ2 st2, Rl X μ2 ρ2 st2 σ2 H2 ∧ SK X μ2 H2 D (whileW t g m ρ2 st2), fun σ2 H2 z => ⟨m, Nat.lt_succ_self m, z⟩, μ1, ρ', st1, l1, ?_⟩
      simp only [if_true] at h1
      cases e : g ρ' st1 with
      | nx ρ3 st3 => rw [e] at h1; exact fun μ4 σ4 H4 p4 x4 l4 => ⟨μ4, ρ3, st3, l4, SK.mono h1 p4 x4⟩
      | ct ρ3 st3 => rw [e] at h1; exact fun μ4 σ4 H4 p4 x4 l4 => ⟨μ4, ρ3, st3, l4, SK.mono h1 p4 x4⟩
      | bk ρ3 st3 => rw [e] at h1; exact h1
      | rt w st3 => rw [e] at h1; exact h1
      | ex c ρ3 st3 => rw [e] at h1; exact h1
      | bad => rw [e] at h1; exact h1
theorem ss_while {t : FT} (hc : ST X c t) (hb : SB X body g) (hp : PassesOwn (model X.prog X.w) X.A X.env X.xe := by passes_own) : SS X (.While c body [] pos) (xWhile t g) := ⟨(ps_while hp hc.h hb.h).imp fun D σ H h => by
  obtain ⟨μ, ρ, st, l, h⟩ := h
  unfold xWhile at h
  by_cases hx : ∃ n, whileW t g n ρ st ≠ .bad
  · rw [dif_pos hx] at h; exact while_sound _ σ H μ ρ st l h
  · rw [dif_neg hx] at h; exact h.elim⟩
/-- a tuple, a list, the signs of a text -/
def itTup (fe : FE) : FI := fun ρ st => (fe ρ st).bind fun x st => match x with
  | .tup ws => .ok (ws, none) st
  | _ => .bad
theorem si_tup (he : SE X e fe) : SI X tg e (itTup fe) := ⟨(pi_tup he.h).imp fun σ H R h => by
  obtain ⟨μ, ρ, st, l, h⟩ := h
  refine ⟨μ, ρ, st, l, RK.bind h l fun μ1 st1 x v H1 p1 x1 l1 q1 h1 => ?_⟩
  cases x with
  | tup ws =>
    obtain ⟨p, vs, rfl, hS, r⟩ := q1.tupE
    refine ⟨p, rfl, ⟨vs, hS⟩, h1 μ1 _ H1 (List.prefix_refl _) Ext.refl l1.sto fun i μ' st' H' pp xx S _ => ⟨fun w hw => ?_, fun hl => ⟨vs, xx _ _ hS, by rw [← r.len]; exact hl⟩⟩⟩
    have r' := r.mono pp xx
    obtain ⟨v, g1, g2⟩ := r'.get hw
    refine ⟨⟨vs, v, xx _ _ hS, g1⟩, fun y H'' hy => ?_⟩
    obtain ⟨rfl, hy⟩ := hy
    have := hy vs (xx _ _ hS)
    rw [g1] at this; cases this
    exact ⟨Ext.refl, S, g2⟩
  | _ => exact h1.elim⟩
def itLst (fe : FE) : FI := fun ρ st => (fe ρ st).bind fun x st => match x with
  | .loc n => (match lstOf st n with
    | some ws => .ok (ws, some (n, ws)) st
    | none => .bad)
  | _ => .bad
theorem si_lst (he : SE X e fe) : SI X tg e (itLst fe) := ⟨(pi_list he.h).imp fun σ H R h => by
  obtain ⟨μ, ρ, st, l, h⟩ := h
  refine ⟨μ, ρ, st, l, RK.bind h l fun μ1 st1 x v H1 p1 x1 l1 q1 h1 => ?_⟩
  cases x with
  | loc n =>
    obtain ⟨a, ha, rfl⟩ := q1.locE
    simp only at h1
    cases e1 : lstOf st1 n with
    | none => rw [e1] at h1; exact h1.elim
    | some ws =>
      rw [e1] at h1
      obtain ⟨a', vs0, g0, hS0, r0⟩ := l1.sto.lstOf e1
      rw [ha] at g0; cases g0
      refine ⟨a, rfl, ⟨vs0, hS0⟩, h1 μ1 _ H1 (List.prefix_refl _) Ext.refl l1.sto fun i μ' st' H' pp xx S ck => ?_⟩
      obtain ⟨a2, vs, g2, hS, r⟩ := S.lstOf (show lstOf st' n = some ws from ck)
      have : μ'[n]? = some a := pre_get pp ha
      rw [g2] at this; cases this
      refine ⟨fun w hw => ?_, fun hl => ⟨vs, hS, by rw [← r.len]; exact hl⟩⟩
      obtain ⟨v, g1, g3⟩ := r.get hw
      refine ⟨⟨vs, v, hS, g1⟩, fun y H'' hy => ?_⟩
      obtain ⟨rfl, hy⟩ := hy
      have := hy vs hS
      rw [g1] at this; cases this
      exact ⟨Ext.refl, S, g3⟩
  | _ => exact h1.elim⟩
def rangeW (lo : Int) (n : Nat) : List W := (List.range n).map fun (i : Nat) => W.int (lo + i)
theorem rangeW_len (lo : Int) (n : Nat) : (rangeW lo n).length = n := by simp [rangeW]
theorem walk_range {μ : List Addr} {H : Hp} {lo : Int} {n : Nat} : WalkOk X (Itr lo n) (rangeW lo n, none) μ H := fun i μ' st' H' pp xx S _ => by
  refine ⟨fun w hw => ?_, fun hl => by rw [rangeW_len] at hl; exact hl⟩
  have hi : i < n := by
    have := (List.getElem?_eq_some_iff.mp hw).1
    rw [rangeW_len] at this; exact this
  refine ⟨hi, fun y H'' hy => ?_⟩
  obtain ⟨rfl, rfl⟩ := hy
  have e : w = .int (lo + i) := by
    unfold rangeW at hw
    rw [List.getElem?_map, List.getElem?_range hi] at hw
    exact (Option.some.inj hw).symm
  subst e
  exact ⟨Ext.refl, S, .int⟩
def itRange1 (fs : FA) : FI := fun ρ st => (fs ρ st).bind fun ws st => match ws with
  | [.int j] => if -(2 ^ 62) ≤ j ∧ j < 2 ^ 62 then .ok (rangeW 0 j.toNat, none) st else .bad
  | _ => .bad
theorem si_range1 (hm : X.mg "range" = none) (ha : SA X [a] fs) (hg : Gl X "range" := by rfl) (hs : starEach [a] X.env = [(false, eval a X.env)] := by rfl) : SI X tg (.Call (.Name "range" p) [a] [] pos) (itRange1 fs) := ⟨(pi_range1 hg hm ha.h hs).imp fun σ H R h => by
  obtain ⟨μ, ρ, st, l, h⟩ := h
  refine ⟨μ, ρ, st, l, RK.bind h l fun μ1 st1 x v H1 p1 x1 l1 q1 h1 => ?_⟩
  split at h1
  · obtain ⟨y, rfl, ry⟩ := q1.one
    split at h1
    · rename_i c
      exact ⟨_, by rw [ry.intE], c.1, c.2, h1 μ1 _ H1 (List.prefix_refl _) Ext.refl l1.sto walk_range⟩
    · exact h1.elim
  · exact h1.elim⟩
end
end L2
set_option Elab.async false
set_option linter.all false
set_option maxRecDepth 100000
set_option maxHeartbeats 4000000
namespace L2
open PySem PySem.Spec PyProof.Rows
mutual
def W.und (n : Nat) : W → Bool
  | .loc m => decide (m < n)
  | .tup ws => undWs n ws
  | _ => true
def undWs (n : Nat) : List W → Bool
  | [] => true
  | w :: ws => w.und n && undWs n ws
end
def Cell.und (n : Nat) : Cell → Bool
  | .lst ws => undWs n ws
  | .ro ws => undWs n ws
  | .exc _ => true
section
variable {K : PySem.W.Frag} {mg : Str → Option Value} {μ μ' : List Addr} {H H' : Hp}
mutual
theorem RelW.und : ∀ {w : W} {v : V}, RelW K μ H w v → w.und μ.length = true
  | .non, _, _ => by simp [W.und]
  | .bl _, _, _ => by simp [W.und]
  | .int _, _, _ => by simp [W.und]
  | .str _, _, _ => by simp [W.und]
  | .tup _, _, r => by obtain ⟨p, vs, _, _, c⟩ := r.tupE; unfold W.und; exact RelWs.und c
  | .loc _, _, r => by obtain ⟨a, e, _⟩ := r.locE; unfold W.und; exact decide_eq_true (List.getElem?_eq_some_iff.mp e).1
theorem RelWs.und : ∀ {ws : List W} {vs : List V}, RelWs K μ H ws vs → undWs μ.length ws = true
  | [], _, _ => by unfold undWs; rfl
  | _ :: _, _, r => by obtain ⟨x, xs, _, b, c⟩ := r.consE; unfold undWs; rw [RelW.und b, RelWs.und c]; rfl
end
mutual
theorem RelW.take {n : Nat} : ∀ {w : W} {v : V}, RelW K μ H w v → w.und n = true → RelW K (μ.take n) H w v
  | .non, _, r, _ => by rw [r.nonE]; exact .non
  | .bl _, _, r, _ => by rw [r.blE]; exact .bl
  | .int _, _, r, _ => by rw [r.intE]; exact .int
  | .str _, _, r, _ => by rw [r.strE]; exact .str
  | .tup _, _, r, b => by obtain ⟨p, vs, rfl, h, c⟩ := r.tupE; unfold W.und at b; exact .tupI h (RelWs.takeN c b)
  | .loc _, _, r, b => by obtain ⟨a, e, rfl⟩ := r.locE; unfold W.und at b; exact .locI (by rw [List.getElem?_take_of_lt (of_decide_eq_true b)]; exact e)
theorem RelWs.takeN {n : Nat} : ∀ {ws : List W} {vs : List V}, RelWs K μ H ws vs → undWs n ws = true → RelWs K (μ.take n) H ws vs
  | [], _, r, _ => by rw [r.nilE]; exact .nilI
  | _ :: _, _, r, b => by
    obtain ⟨x, xs, rfl, b1, c1⟩ := r.consE
    unfold undWs at b
    rw [Bool.and_eq_true] at b
    exact .consI (RelW.take b1 b.1) (RelWs.takeN c1 b.2)
end
theorem CellR.und {c : Cell} {a : Addr} (r : CellR K mg μ H c a) : c.und μ.length = true := by
  cases c with
  | lst ws => obtain ⟨vs, _, y⟩ := r; exact y.und
  | ro ws => obtain ⟨vs, _, y⟩ := r; exact y.und
  | exc c => rfl
theorem CellR.take {n : Nat} {c : Cell} {a : Addr} (r : CellR K mg μ H c a) (b : c.und n = true) : CellR K mg (μ.take n) H c a := by
  cases c with
  | lst ws => obtain ⟨vs, x, y⟩ := r; exact ⟨vs, x, y.takeN b⟩
  | ro ws => obtain ⟨vs, x, y⟩ := r; exact ⟨vs, x, y.takeN b⟩
  | exc c => exact r
end
theorem ObjOk.ex {P : Program} {w : World} {H : Hp} {h : Heap} {a : Addr} {o : HO} (x : ObjOk P w H h a o) : ∃ ob, h.get? a = some ob := by
  cases o with
  | lst xs => obtain ⟨_, _, _, _, e⟩ := x; exact ⟨_, e⟩
  | tup xs => obtain ⟨_, _, _, o, e, _⟩ := x; exact ⟨_, e⟩
  | dK kvs => obtain ⟨_, _, _, _, o, _, _, e, _⟩ := x; exact ⟨_, e⟩
  | dT kvs => obtain ⟨_, _, _, _, o, _, _, e, _⟩ := x; exact ⟨_, e⟩
  | set S n => obtain ⟨o, _, _, _, e, _⟩ := x; exact ⟨_, e⟩
  | ins C dx fs => obtain ⟨_, _, _, e, _⟩ := x; exact ⟨_, e⟩
  | own y => obtain ⟨_, e⟩ := x; exact ⟨_, e⟩
  | xd fs => obtain ⟨_, ⟨_, _, _, e, _⟩, _⟩ := x; exact ⟨_, e⟩
  | rng lo hi => obtain ⟨_, _, _, e⟩ := x; exact ⟨_, e⟩
  | frz ob u => obtain ⟨e, _⟩ := x; exact ⟨_, e⟩
  | tbl ps => exact ⟨_, (show h.get? a = some _ from x)⟩
  | met f y => exact ⟨_, (show h.get? a = some _ from x)⟩
  | ext φ => obtain ⟨_, ⟨_, e⟩, _⟩ := x; exact ⟨_, e⟩
/-- what is left of the cells behind a call: those that stood ahead of it, where nothing leads to a new one -/
def Keeps (st st' : List Cell) (ws : List W) : Prop := undWs st.length ws = true ∧ st.length ≤ st'.length ∧ ∀ (i : Nat), i < st.length → st'[i]? = st[i]? ∨ ∃ c, st'[i]? = some c ∧ c.und st.length = true
open Classical in
noncomputable def trunc (st st' : List Cell) (ws : List W) : List Cell := if Keeps st st' ws then st'.take st.length else st'
theorem trunc_ok {K : PySem.W.Frag} {mg : Str → Option Value} {μ μ' : List Addr} {H H' : Hp} {st st' : List Cell} {ws : List W} {vs : List V} (S : StR K mg μ st H) (S' : StR K mg μ' st' H') (p : μ <+: μ') (r : RelWs K μ' H' ws vs) :
    ∃ μ2, μ <+: μ2 ∧ StR K mg μ2 (trunc st st' ws) H' ∧ RelWs K μ2 H' ws vs := by
  unfold trunc
  by_cases k : Keeps st st' ws
  · rw [if_pos k]
    obtain ⟨k1, k2, k3⟩ := k
    have e : μ'.take st.length = μ := by
      obtain ⟨t, rfl⟩ := p
      rw [S.len, List.take_left]
    refine ⟨μ'.take st.length, by rw [e]; exact List.prefix_refl _, ⟨fun i j a ci cj h1 h2 r1 r2 m1 m2 => ?_, by rw [List.length_take, List.length_take, S'.len], fun i c a h1 h2 => ?_⟩, r.takeN k1⟩
    · have hi : i < st.length := by have := (List.getElem?_eq_some_iff.mp h1).1; rw [List.length_take] at this; omega
      have hj : j < st.length := by have := (List.getElem?_eq_some_iff.mp h2).1; rw [List.length_take] at this; omega
      rw [List.getElem?_take_of_lt hi] at h1 m1
      rw [List.getElem?_take_of_lt hj] at h2 m2
      exact S'.nd i j a ci cj h1 h2 r1 r2 m1 m2
    · have hi : i < st.length := by have := (List.getElem?_eq_some_iff.mp h1).1; rw [List.length_take] at this; omega
      rw [List.getElem?_take_of_lt hi] at h1 h2
      refine (S'.at' i c a h1 h2).take ?_
      rcases k3 i hi with q | ⟨c', q, b⟩
      · rw [h1] at q
        obtain ⟨a0, g0, r0⟩ := S.get q.symm
        have := r0.und
        rw [S.len]; exact this
      · rw [h1] at q; cases q; exact b
  · rw [if_neg k]
    exact ⟨μ', p, S', r⟩
noncomputable def runF (N : Nat) (body : FS) (ws : List W) (st : List Cell) : R W := match body (ws.map some ++ List.replicate (N - ws.length) none) st with
  | .rt w st' => .ok w (trunc st st' [w])
  | .nx _ st' => .ok .non (trunc st st' [])
  | .ex c _ st' => .ex c (trunc st st' [])
  | _ => .bad
/-- how an exception lies behind a call -/
def CX1 (P : Program) (w : World) : CXT := fun outer H s E e s' => ∃ x C t B H', e = .ref x ∧ E C none H' ∧ s'.os = s.os ∧ AllBare s'.gens ∧ Un (frs outer) [] H H' s.heap s'.heap ∧ HOk P w H' s'.heap ∧ H' x = none ∧ Heap.FlyingW B outer x C (.ref t) s'.heap ∧
  ∀ b o, s'.heap.get? b = some o → (H' b ≠ none ∨ ((∃ o0, s.heap.get? b = some o0) ∧ b ∉ frs outer)) → B.get? b = some o
/-- what a def promises, by its function -/
def spW (K : PySem.W.Frag) (mg : Str → Option Value) (n : Nat) (F : List W → List Cell → R W) : Sp := fun vs H Q E => vs.length = n ∧ ∃ μ ws st, StR K mg μ st H ∧ RelWs K μ H ws vs ∧ (match F ws st with
  | .ok w st' => ∀ μ' v H', μ <+: μ' → Ext K H H' → StR K mg μ' st' H' → RelW K μ' H' w v → Q v H'
  | .ex c st' => ∀ C μ' H', mg c = some C → μ <+: μ' → Ext K H H' → StR K mg μ' st' H' → E C none H'
  | .bad => False)
/-- behind the frame's own note: still in flight, all else as it was -/
theorem Flies.noted {X : Cx} {pins : List (Addr × Obj)} {σ : St} {c : Str} {H : Hp} {e : Value} {s : Shared} {Q : Unit → Shared → Prop} {E : Value → Shared → Prop} {M : Model} {outer : List Env} (f : Flies X pins σ c H e s) (hst : X.stack = X.env :: outer) (hfr : X.env.frame = some X.env.locals) (hA : X.A.frames = some X.stack)
    (h : ∀ x C t B h', e = .ref x → X.mg c = some C → H x = none → Heap.FlyingW B X.stack x C (.ref t) h' → s.heap.UpToSlots h' →
      (∀ b o, s.heap.get? b = some o → (H b ≠ none ∨ ((∃ o0, X.s₀.heap.get? b = some o0) ∧ b ∉ X.fs ∧ b ∉ X.ex) ∨ ((∃ y, X.env.cells.lookup y = some b) ∧ b ∉ frs X.stack) ∨ ∃ p ∈ X.pn ++ pins, p.1 = b) → B.get? b = some o) → Q () { s with heap := h' }) :
    wpAny M X.A (leaving X.env e) Q E s := by
  obtain ⟨x, C, t, B, rfl, hC, hx, st, nx, ff, tr, cov⟩ := f.ex
  rw [hst] at ff hA
  rcases tr with tr | ⟨oe, vs, he, rfl, _, hd, h1, h0⟩
  · refine wpAny_leaving_nextW hA ff hfr tr st nx fun h' hL => ?_
    obtain ⟨k1, k2, k3, k4⟩ := hL
    exact h x C t B h' rfl hC hx ⟨k1, nx, by rw [hst]; exact k2, k3⟩ k4 cov
  · refine wpAny_leaving_firstW hA ff hfr he st nx hd h1 h0 fun h' hL => ?_
    obtain ⟨k1, k2, k3, k4⟩ := hL
    exact h x _ t B h' rfl hC hx ⟨k1, nx, by rw [hst]; exact k2, k3⟩ k4 cov
/-- the exception leaves the frame -/
theorem Flies.leaves {X : Cx} {pins : List (Addr × Obj)} {σ : St} {c : Str} {H : Hp} {e : Value} {s : Shared} {E : XK} {E' : Value → Shared → Prop} {M : Model} (f : Flies X pins σ c H e s) (hst : X.stack = X.env :: X.outer) (hfr : X.env.frame = some X.env.locals) (hA : X.A.frames = some X.stack) (hex : X.ex = [])
    (hE : ∀ C, X.mg c = some C → E C none H) : wpAny M X.A (leaving X.env e) (fun _ s'' => CX1 X.prog X.w X.outer X.H₀ X.s₀ E e s'') E' s := by
  refine f.noted hst hfr hA fun x C t B h' he hC hx fl up cov => ?_
  have I := f.inv
  have un := I.base
  rw [hex] at un
  have fsE : X.fs = frs X.outer := rfl
  obtain ⟨f1, f2, f3, f4⟩ := fl
  rw [hst] at f3
  obtain ⟨_, _, f3'⟩ := f3
  have frames : ∀ b ∈ frs X.outer, ∀ o, s.heap.get? b = some o → ∃ sl, h'.get? b = some { o with slots := sl } := fun b hb o ho => by
    obtain ⟨_, o', ho', hd⟩ := I.funs.mem hb
    rw [ho] at ho'; cases ho'
    exact up b o ho hd
  have kept : ∀ b o, s.heap.get? b = some o → (∃ o0, X.s₀.heap.get? b = some o0) → b ∉ frs X.outer → h'.get? b = some o := fun b o ho h0 hb => f1 b o (cov b o ho (.inr (.inl ⟨h0, hb, by rw [hex]; simp⟩)))
  have keptH : ∀ b o, s.heap.get? b = some o → H b ≠ none → h'.get? b = some o := fun b o ho h0 => f1 b o (cov b o ho (.inl h0))
  refine ⟨x, C, t, B, H, he, hE C hC, I.os, I.bare, ⟨fun b o q n hb hx => ?_, fun b o q n hb hx => ?_, fun b o q n hx => un.free b o q n hx, fun b o q hx => ?_, un.tups, un.frzs, un.tbls⟩, fun b u hb => ?_, hx, ⟨f1, f2, f3', f4⟩, fun b o ho hr => ?_⟩
  · exact kept b o (un.keep b o q n hb hx) ⟨o, q⟩ hb
  · obtain ⟨sl, q1⟩ := un.slot b o q n hb hx
    obtain ⟨sl2, q2⟩ := frames b hb _ q1
    exact ⟨sl2, q2⟩
  · obtain ⟨o', q1⟩ := un.there b o q hx
    by_cases hb : b ∈ frs X.outer
    · obtain ⟨sl2, q2⟩ := frames b hb _ q1; exact ⟨_, q2⟩
    · exact ⟨o', kept b o' q1 ⟨o, q⟩ hb⟩
  · refine (I.hok b u hb).stay (fun c v hc q => ?_) (fun _ q => q) fun _ _ q => q
    refine keptH c v q ?_
    rcases hc with rfl | hc
    · rw [hb]; simp
    · rw [hc]; simp
  · rcases hr with hr | ⟨⟨o0, h0⟩, hb⟩
    · cases hu : H b with
      | none => exact absurd hu hr
      | some u =>
        have lt := I.hok.lt hu
        obtain ⟨ob, hob⟩ : ∃ ob, s.heap.get? b = some ob := by
          exact (I.hok b u hu).ex
        have := keptH b ob hob hr
        rw [ho] at this; cases this
        exact cov b o hob (.inl hr)
    · obtain ⟨o', q1⟩ := un.there b o0 h0 (by simp)
      have := kept b o' q1 ⟨o0, h0⟩ hb
      rw [ho] at this; cases this
      exact cov b o q1 (.inr (.inl ⟨⟨o0, h0⟩, hb, by rw [hex]; simp⟩))

structure HasW (P : Program) (w : World) (K : PySem.W.Frag) (mg : Str → Option Value) (base : Heap) (k : Nat) (x : Str) (n : Nat) (F : List W → List Cell → R W) : Prop where
  ex : ∃ (f : Addr) (fd : FuncData) (ps : List Str), mg x = some (.ref f) ∧ PySem.W.keepIn K (.ref f) = true ∧ ps.length = n ∧ Binds K fd ps [] ∧ FnOk P w K mg base (CX1 P w) k f fd ps (spW K mg n F)
theorem HasW.mono {P : Program} {w : World} {K : PySem.W.Frag} {mg : Str → Option Value} {base : Heap} {j k : Nat} {x : Str} {n : Nat} {F : List W → List Cell → R W} (h : HasW P w K mg base j x n F) (hj : j ≤ k) : HasW P w K mg base k x n F := by
  obtain ⟨f, fd, ps, a, b, c, d, e⟩ := h.ex
  exact ⟨f, fd, ps, a, b, c, d, e.mono hj⟩
def eDef (n : Nat) (F : List W → List Cell → R W) (fs : FA) : FE := fun ρ st => (fs ρ st).bind fun ws st => if ws.length = n then F ws st else .bad
section
variable {X : Cx}
theorem run_W {k n : Nat} {f : Addr} {fd : FuncData} {ps : List Str} {F : List W → List Cell → R W} {pins : List (Addr × Obj)} {σ : St} {H : Hp} {s : Shared} {Q : VK} {us : List Value} {vs : List V} {μ : List Addr} {st : List Cell} {ws : List W}
    (Fn : FnOk X.prog X.w X.K X.mg X.base (CX1 X.prog X.w) k f fd ps (spW X.K X.mg n F)) (hn : ps.length = n) (hr : Room k X.A) (hb : Binds X.K fd ps []) (I : Inv X pins σ H s) (S : StR X.K X.mg μ st H) (r : RelWs X.K μ H ws vs) (rv : Vals vs us) (hl : ws.length = n)
    (h : RK X (relW X) μ σ H Q (F ws st)) : wpAny (model X.prog X.w) X.A (call (.ref f) us) (EP X pins σ Q) X.xe s := by
  have hl' : (us ++ ([] : List Value)).length = ps.length := by rw [List.append_nil, ← rv.length, ← r.len, hl, hn]
  cases e : F ws st with
  | bad => rw [e] at h; exact h.elim
  | ok w st' =>
    rw [e] at h
    refine wpAny_call (codeAny_mono (Fn.run X.A X.stack s H ⟨us, []⟩ us vs Q (fun _ _ _ => False) hr I.env0 (by have := hb s us I.kIn hl'; rwa [List.append_nil] at this) rv ⟨by rw [← r.len]; exact hl, μ, ws, st, S, r, by rw [e]; exact h⟩) fun r s' hq => ?_)
    cases r with
    | error e => obtain ⟨_, _, _, _, _, _, z, _⟩ := hq; exact z.elim
    | ok fl =>
      cases fl with
      | ret u => exact I.after hq
      | next => exact False.elim hq
      | brk => exact False.elim hq
      | cont => exact False.elim hq
  | ex c st' =>
    rw [e] at h
    refine wpAny_call (codeAny_mono (Fn.run X.A X.stack s H ⟨us, []⟩ us vs (fun _ _ => False) (fun C _ H' => X.mg c = some C ∧ ∃ μ', μ <+: μ' ∧ Ext X.K H H' ∧ StR X.K X.mg μ' st' H') hr I.env0 (by have := hb s us I.kIn hl'; rwa [List.append_nil] at this) rv
      ⟨by rw [← r.len]; exact hl, μ, ws, st, S, r, by rw [e]; exact fun C μ' H' hC p x S' => ⟨hC, μ', p, x, S'⟩⟩) fun r s' hq => ?_)
    cases r with
    | ok fl =>
      cases fl with
      | ret u => obtain ⟨_, _, _, _, _, _, _, z⟩ := hq; exact z.elim
      | next => exact False.elim hq
      | brk => exact False.elim hq
      | cont => exact False.elim hq
    | error ev =>
      obtain ⟨x, C, t, B, H', rfl, ⟨hC, μ', p, xx, S'⟩, os, bare, un, hok, hx, fl, cov⟩ := hq
      have I' : Inv X pins σ H' s' := I.call' os un hok bare fun b hb => absurd hb (by simp)
      refine h pins μ' H' (.ref x) s' p xx S' ⟨I', x, C, t, B, rfl, hC, hx, fl.1, fl.2.1, fl.2.2.1, .inl fl.2.2.2, fun b o ho hrel => ?_⟩
      refine cov b o ho ?_
      rcases hrel with q | ⟨⟨o0, h0⟩, hb, hbx⟩ | ⟨⟨y, hy⟩, hb⟩ | ⟨pp, hp, rfl⟩
      · exact .inl q
      · refine .inr ⟨?_, fun z => ?_⟩
        · obtain ⟨o', q1⟩ := I.base.there b o0 h0 hbx
          exact ⟨o', q1⟩
        · rcases List.mem_cons.mp (I.stkSub b z) with z | z
          · rw [z] at h0
            exact absurd (Nat.lt_of_lt_of_le (Heap.lt_size h0) I.ok.above) (Nat.lt_irrefl _)
          · exact hb z
      · obtain ⟨v, ov, hov, _⟩ := I.cell y b hy
        exact .inr ⟨⟨_, hov⟩, hb⟩
      · obtain ⟨g1, g2, g3, g4, _⟩ := I.pin pp hp
        refine .inr ⟨⟨_, g1⟩, fun z => ?_⟩
        rcases List.mem_cons.mp (I.stkSub _ z) with z | z
        · exact g3 z
        · exact g4 z
variable {e : Expr} {es : List Expr} {pos p : Pos} {x : Str} {fs : FA}
theorem s_def {k k' n : Nat} {F : List W → List Cell → R W} (Fn : HasW X.prog X.w X.K X.mg X.base k x n F) (hr : Room k' X.A) (hk : k ≤ k') (ha : SA X (e :: es) fs) (hg : Gl X x := by rfl) (hdb : (x == ("__debug__" : Str)) = false := by decide)
    (he : starEach (e :: es) X.env = (false, eval e X.env) :: starEach es X.env := by rfl) (hpl : (backTo pos (starEach es X.env)).any (·.1) = false := by rfl) : SE X (.Call (.Name x p) (e :: es) [] pos) (eDef n F fs) := ⟨by
  intro pins s σ H Q I h
  obtain ⟨f, fd, ps, hm, hkp, hn, hb, Fo⟩ := (Fn.mono hk).ex
  refine wpAny_Call_Name_kw (ld_glob I hg hm ?_ hdb)
  obtain ⟨μ, ρ, st, l, h⟩ := h
  have h' : tA' X fs σ H fun vs H1 => ∃ μ1 st1 ws, Rl X μ1 ρ st1 σ H1 ∧ RelWs X.K μ1 H1 ws vs ∧ RK X (relW X) μ1 σ H1 Q (if ws.length = n then F ws st1 else .bad) :=
    ⟨μ, ρ, st, l, RK.bind h l fun μ1 st1 x v H1 p1 x1 l1 q1 h1 => ⟨μ1, st1, x, l1, q1, h1⟩⟩
  refine PySem.W.callWith_K (h₀ := X.base) I.ok.mod.kin hkp (thn (ha.h pos pins s σ H _ I h') fun us s1 ⟨vs, H1, I1, r, μ1, st1, ws, l1, r1, q⟩ => ⟨I1.kIn, ?_⟩) he hpl
  by_cases c : ws.length = n
  · rw [if_pos c] at q
    exact run_W Fo hn hr hb I1 l1.sto r1 r c q
  · rw [if_neg c] at q; exact q.elim⟩
end
theorem fnW_of {P : Program} {w : World} {K : PySem.W.Frag} {mg : Str → Option Value} {base : Heap} {x qual : Str} {st : Stmt} {f : Addr} {fd : FuncData} {N ps : List Str} {k n : Nat} {g : FS} (F : Fun K x qual st f fd) (S : FnScope N ps (defScope st)) (hn : ps.length = n)
    (hbody : ∀ (cdv : Value) (A : Around) (outer : List Env) (s : Shared) (H : Hp) (E : XK), Room k (A.deeper (envOfC qual (defScope st) s.heap.objs.size f cdv)) →
      SB (cxOf (CX1 P w) P w K mg base N qual (defScope st) f cdv A outer s H E) (defBody st) g) : FnOk P w K mg base (CX1 P w) (k + 1) f fd ps (spW K mg n (runF N.length g)) := by
  obtain ⟨oc, od, kV, doc, pm, an, cdv, ct, osl, rfl, lk, hcd⟩ := F.ex
  refine fn_of lk hcd S (fun vs H Q E h => by rw [hn]; exact h.1) fun A outer s H vs Q E hr hsp => ?_
  obtain ⟨hl, μ, ws, st0, Sr, r, h⟩ := hsp
  refine ⟨_, (hbody cdv A outer s H E hr).h, μ, ws.map some ++ List.replicate (N.length - ws.length) none, st0, ⟨?_, Sr⟩, ?_⟩
  · unfold start
    rw [← r.len]
    have base : ∀ (ws : List W) (vs : List V) (m : Nat), RelWs K μ H ws vs → Paired (fun (o : Option W) (s : Option V) => ∀ w, o = some w → ∃ v, s = some v ∧ RelW K μ H w v) (ws.map some ++ List.replicate m none) (vs.map some ++ List.replicate m none) := by
      intro ws
      induction ws with
      | nil =>
        intro vs m r
        rw [r.nilE]
        induction m with
        | zero => exact .nil
        | succ m ih => exact .cons (fun w z => nomatch z) ih
      | cons w ws ih =>
        intro vs m r
        obtain ⟨y, ys, rfl, ry, rys⟩ := r.consE
        exact .cons (fun w' z => ⟨y, rfl, by cases z; exact ry⟩) (ih ys m rys)
    exact base ws vs _ r
  · unfold runF at h
    cases e : g (ws.map some ++ List.replicate (N.length - ws.length) none) st0 with
    | rt w st' =>
      rw [e] at h
      intro μ' v H' p x S' rw'
      obtain ⟨μ2, p2, S2, r2⟩ := trunc_ok Sr S' p (.consI rw' .nilI)
      obtain ⟨_, e2, r3⟩ := r2.one
      cases e2
      exact h μ2 v H' p2 x S2 r3
    | nx ρ' st' =>
      rw [e] at h
      intro μ' σ' H' p x l'
      obtain ⟨μ2, p2, S2, _⟩ := trunc_ok (ws := []) (vs := []) Sr l'.sto p .nilI
      exact h μ2 .non H' p2 x S2 .non
    | ex c ρ' st' =>
      rw [e] at h
      intro pins μ' σ' H' ev s' p x l' fl
      obtain ⟨μ2, p2, S2, _⟩ := trunc_ok (ws := []) (vs := []) Sr l'.sto p .nilI
      exact fl.leaves rfl rfl fl.inv.ok.frames rfl fun C hC => h C μ2 H' hC p2 x S2
    | bk ρ' st' => rw [e] at h; exact h.elim
    | ct ρ' st' => rw [e] at h; exact h.elim
    | bad => rw [e] at h; exact h.elim
theorem hasW_mk {P : Program} {w : World} {K : PySem.W.Frag} {mg : Str → Option Value} {base : Heap} {k n : Nat} {x : Str} {st : Stmt} {f : Addr} {fd : FuncData} {ps : List Str} {G : List W → List Cell → R W}
    (F : Fun K x x st f fd) (hm : mg x = some (.ref f)) (hn : ps.length = n)
    (hb : ∀ (kV doc pm : Value) (an : Option Addr) (cdv ct : Value) (us : List Value), us.length = ps.length → bindArgs (PySem.W.fnOf x x (defArgs st) (defBody st) (defScope st) .none kV doc pm an cdv ct) ⟨us, []⟩ = pure (ps.zip us))
    (ok : FnOk P w K mg base (CX1 P w) k f fd ps (spW K mg n G)) : HasW P w K mg base k x n G := ⟨f, fd, ps, hm, F.kp, hn, F.binds hb, ok⟩
end L2
set_option Elab.async false
set_option linter.all false
set_option maxRecDepth 100000
set_option maxHeartbeats 4000000
namespace L2
open PySem PySem.Spec PyProof.Rows
theorem RelWs.split {K : PySem.W.Frag} {μ : List Addr} {H : Hp} : ∀ {as bs : List W} {vs : List V}, RelWs K μ H (as ++ bs) vs → ∃ xs ys, vs = xs ++ ys ∧ RelWs K μ H as xs ∧ RelWs K μ H bs ys
  | [], _, vs, r => ⟨[], vs, rfl, .nilI, r⟩
  | w :: as, bs, vs, r => by
    obtain ⟨x, xs, rfl, rx, rs⟩ := r.consE
    obtain ⟨ys, zs, rfl, r1, r2⟩ := RelWs.split rs
    exact ⟨x :: ys, zs, rfl, .consI rx r1, r2⟩
section
variable {X : Cx} {a b c e o tg : Expr} {es : List Expr} {pos p p2 apos cpos : Pos} {x name : Str} {fa fb fe fo : FE} {fs : FA} {id : String}
structure MtW (X : Cx) (id : String) (F : W → List W → List Cell → R W) : Prop where
  h : MtR X id (fun x vs H Q => ∃ μ st wx ws, StR X.K X.mg μ st H ∧ RelW X.K μ H wx x ∧ RelWs X.K μ H ws vs ∧ OkW X μ H Q (F wx ws st))
  n : ∀ x ws st, noEx (F x ws st)
def isLst (st : List Cell) : W → Bool
  | .loc n => (match st[n]? with | some (.lst _) => true | _ => false)
  | _ => false
def isStr : W → Bool
  | .str _ => true
  | _ => false
theorem isLst_ok {μ : List Addr} {st : List Cell} {H : Hp} {w : W} {v : V} (S : StR X.K X.mg μ st H) (r : RelW X.K μ H w v) (h : isLst st w = true) : ∃ l ys, v = .ref l ∧ H l = some (.lst ys) := by
  cases w with
  | loc n =>
    obtain ⟨a, ha, rfl⟩ := r.locE
    simp only [isLst] at h
    cases e1 : st[n]? with
    | none => rw [e1] at h; cases h
    | some cc =>
      rw [e1] at h
      cases cc with
      | lst ws => obtain ⟨a1, g1, vs, k1, _⟩ := S.get e1; rw [ha] at g1; cases g1; exact ⟨_, vs, rfl, k1⟩
      | _ => cases h
  | _ => cases h
def eML (F : W → List W → List Cell → R W) (fo : FE) (fs : FA) : FE := fun ρ st => (fo ρ st).bind fun x st => if isLst st x then (fs ρ st).bind fun ws st => F x ws st else .bad
def eMS (F : W → List W → List Cell → R W) (fo : FE) (fs : FA) : FE := fun ρ st => (fo ρ st).bind fun x st => if isStr x then (fs ρ st).bind fun ws st => F x ws st else .bad
theorem s_ml {F : W → List W → List Cell → R W} (slot : Slot "list" name id) (hty : typeOf (.builtin id) = pure (.type "method_descriptor")) (hm : MtW X id F) (ho : SE X o fo) (ha : SA X (e :: es) fs)
    (hbase : attributeBase o name X.env (eval o X.env) = eval o X.env := by rfl)
    (hfew : ((backTo cpos (starEach (e :: es) X.env)).all (fun x => !x.1) && (backToKw cpos (keywordEach [] X.env)).all (fun x => x.1.isSome)
      && decide ((e :: es).length + ([] : List Keyword).length + (if ([] : List Keyword).isEmpty then 0 else 1) < 30)) = true := by rfl)
    (hline : (apos.endLine == cpos.line) = true := by rfl) (hs : starEach (e :: es) X.env = (false, eval e X.env) :: starEach es X.env := by rfl) (hplain : (backTo cpos (starEach es X.env)).any (·.1) = false := by rfl) :
    SE X (.Call (.Attribute o name apos) (e :: es) [] cpos) (eML F fo fs) := ⟨(pe_ml slot hty hm.h ho.h ha.h hbase hfew hline hs hplain).imp fun σ H Q h => by
  obtain ⟨μ, ρ, st, l, h⟩ := h
  refine ⟨μ, ρ, st, l, RK.bind h l fun μ1 st1 x v H1 p1 x1 l1 q1 h1 => ?_⟩
  by_cases c : isLst st1 x = true
  · rw [if_pos c] at h1
    refine ⟨isLst_ok l1.sto q1 c, μ1, ρ, st1, l1, RK.bind h1 l1 fun μ2 st2 ws vs H2 p2 x2 l2 q2 h2 => ?_⟩
    exact ⟨μ2, st2, x, ws, l2.sto, q1.mono p2 x2, q2, okW_of h2 (hm.n _ _ _)⟩
  · rw [if_neg c] at h1; exact h1.elim⟩
theorem s_ml0 {F : W → List W → List Cell → R W} (slot : Slot "list" name id) (hty : typeOf (.builtin id) = pure (.type "method_descriptor")) (hm : MtW X id F) (ho : SE X o fo)
    (hbase : attributeBase o name X.env (eval o X.env) = eval o X.env := by rfl) (hline : (apos.endLine == cpos.line) = true := by rfl) : SE X (.Call (.Attribute o name apos) [] [] cpos) (eML F fo aNil) := ⟨(pe_ml0 slot hty hm.h ho.h hbase hline).imp fun σ H Q h => by
  obtain ⟨μ, ρ, st, l, h⟩ := h
  refine ⟨μ, ρ, st, l, RK.bind h l fun μ1 st1 x v H1 p1 x1 l1 q1 h1 => ?_⟩
  by_cases c : isLst st1 x = true
  · rw [if_pos c] at h1
    exact ⟨isLst_ok l1.sto q1 c, μ1, st1, x, [], l1.sto, q1, .nilI, okW_of h1 (hm.n _ _ _)⟩
  · rw [if_neg c] at h1; exact h1.elim⟩
theorem s_ms {F : W → List W → List Cell → R W} (slot : Slot "str" name id) (hty : typeOf (.builtin id) = pure (.type "method_descriptor")) (hm : MtW X id F) (ho : SE X o fo) (ha : SA X (e :: es) fs)
    (hbase : attributeBase o name X.env (eval o X.env) = eval o X.env := by rfl)
    (hfew : ((backTo cpos (starEach (e :: es) X.env)).all (fun x => !x.1) && (backToKw cpos (keywordEach [] X.env)).all (fun x => x.1.isSome)
      && decide ((e :: es).length + ([] : List Keyword).length + (if ([] : List Keyword).isEmpty then 0 else 1) < 30)) = true := by rfl)
    (hline : (apos.endLine == cpos.line) = true := by rfl) (hs : starEach (e :: es) X.env = (false, eval e X.env) :: starEach es X.env := by rfl) (hplain : (backTo cpos (starEach es X.env)).any (·.1) = false := by rfl) :
    SE X (.Call (.Attribute o name apos) (e :: es) [] cpos) (eMS F fo fs) := ⟨(pe_ms slot hty hm.h ho.h ha.h hbase hfew hline hs hplain).imp fun σ H Q h => by
  obtain ⟨μ, ρ, st, l, h⟩ := h
  refine ⟨μ, ρ, st, l, RK.bind h l fun μ1 st1 x v H1 p1 x1 l1 q1 h1 => ?_⟩
  cases x with
  | str z =>
    rw [if_pos (show isStr (W.str z) = true from rfl)] at h1
    refine ⟨⟨z, q1.strE⟩, μ1, ρ, st1, l1, RK.bind h1 l1 fun μ2 st2 ws vs H2 p2 x2 l2 q2 h2 => ?_⟩
    exact ⟨μ2, st2, _, ws, l2.sto, q1.mono p2 x2, q2, okW_of h2 (hm.n _ _ _)⟩
  | _ => exact h1.elim⟩
def mAppend (x : W) (ws : List W) (st : List Cell) : R W := match x, ws with
  | .loc n, [y] => (match st[n]? with
    | some (.lst zs) => if zs.length < LIM then .ok .non (st.set n (.lst (zs ++ [y]))) else .bad
    | _ => .bad)
  | _, _ => .bad
theorem m_appendW : MtW X "list.append" mAppend := ⟨fun pins s σ H x vs v us Q I rv rus ⟨μ, st, wx, ws, S, rx, rs, q⟩ => by
  unfold mAppend at q
  split at q
  · rename_i n y
    obtain ⟨y1, rfl, ry⟩ := rs.one
    split at q
    · rename_i zs e1
      split at q
      · rename_i c
        obtain ⟨a1, g1, vs, k1, r⟩ := S.get e1
        obtain ⟨b1, f1, rfl⟩ := rx.locE
        rw [g1] at f1; cases f1
        refine mt_appendF pins s σ H _ _ v us Q I rv rus ⟨a1, vs, y1, rfl, rfl, k1, by rw [← r.len]; exact lim_lt (Nat.le_of_lt c), fun H2 e => ?_⟩
        subst e
        exact q μ _ _ (List.prefix_refl _) (SqT.but but_upd k1) (S.set e1 g1 k1 (r.app (.consI ry .nilI))) .non
      · exact q.elim
    · exact q.elim
  · exact q.elim, fun x ws st => by
  unfold mAppend
  repeat' split
  all_goals trivial⟩
def mPop (x : W) (ws : List W) (st : List Cell) : R W := match x, ws with
  | .loc n, [] => (match st[n]? with
    | some (.lst zs) => ofO zs.getLast? fun w => .ok w (st.set n (.lst zs.dropLast))
    | _ => .bad)
  | _, _ => .bad
theorem m_popW : MtW X "list.pop" mPop := ⟨fun pins s σ H x vs v us Q I rv rus ⟨μ, st, wx, ws, S, rx, rs, q⟩ => by
  unfold mPop at q
  split at q
  · rename_i n
    have e0 := rs.nilE
    subst e0
    split at q
    · rename_i zs e1
      obtain ⟨a1, g1, vs, k1, r⟩ := S.get e1
      obtain ⟨b1, f1, rfl⟩ := rx.locE
      rw [g1] at f1; cases f1
      cases hl : zs.getLast? with
      | none => rw [hl] at q; exact q.elim
      | some w =>
        rw [hl] at q
        have hz : zs = zs.dropLast ++ [w] := by
          obtain ⟨ys, rfl⟩ := List.getLast?_eq_some_iff.mp hl
          simp
        rw [hz] at r
        obtain ⟨xs', ys', hx, r1, r3⟩ := r.split
        obtain ⟨y', rfl, r2⟩ := r3.one
        refine mt_popF pins s σ H _ _ v us Q I rv rus ⟨a1, xs', y', rfl, rfl, by rw [← hx]; exact k1, fun H2 e => ?_⟩
        subst e
        have xx : Ext X.K H (upd H a1 (.lst xs')) := SqT.but but_upd k1
        exact q μ _ _ (List.prefix_refl _) xx (S.set e1 g1 k1 r1) (r2.mono (List.prefix_refl _) xx)
    · exact q.elim
  · exact q.elim, fun x ws st => by
  unfold mPop ofO
  repeat' split
  all_goals trivial⟩
/-- xs.extend(ys), ys a list -/
def mExtend (x : W) (ws : List W) (st : List Cell) : R W := match x, ws with
  | .loc n, [.loc m] => (match st[n]?, st[m]? with
    | some (.lst zs), some (.lst ys) => if zs.length + ys.length ≤ LIM then .ok .non (st.set n (.lst (zs ++ ys))) else .bad
    | _, _ => .bad)
  | _, _ => .bad
theorem m_extendW : MtW X "list.extend" mExtend := ⟨fun pins s σ H x vs v us Q I rv rus ⟨μ, st, wx, ws, S, rx, rs, q⟩ => by
  unfold mExtend at q
  split at q
  · rename_i n m
    obtain ⟨y1, rfl, ry⟩ := rs.one
    split at q
    · rename_i zs ys e1 e2
      split at q
      · rename_i c
        obtain ⟨a1, g1, vs1, k1, r1⟩ := S.get e1
        obtain ⟨a2, g2, vs2, k2, r2⟩ := S.get e2
        obtain ⟨b1, f1, rfl⟩ := rx.locE
        obtain ⟨b2, f2, rfl⟩ := ry.locE
        rw [g1] at f1; cases f1
        rw [g2] at f2; cases f2
        refine mt_extend pins s σ H _ _ v us Q I rv rus ⟨a1, a2, vs1, vs2, rfl, rfl, k1, k2, by rw [← r1.len, ← r2.len]; exact lim_le c, ?_⟩
        exact q μ _ _ (List.prefix_refl _) (SqT.but but_upd k1) (S.set e1 g1 k1 (r1.app r2)) .non
      · exact q.elim
    · exact q.elim
  · exact q.elim, fun x ws st => by
  unfold mExtend
  repeat' split
  all_goals trivial⟩
def strs? : List W → Option (List (List Nat))
  | [] => some []
  | .str l :: ws => (strs? ws).map (l :: ·)
  | _ => none
theorem strs?_ok {K : PySem.W.Frag} {μ : List Addr} {H : Hp} : ∀ {ws : List W} {ls : List (List Nat)} {vs : List V}, strs? ws = some ls → RelWs K μ H ws vs → vs = ls.map fun l => V.str (tx l)
  | [], ls, vs, h, r => by simp only [strs?] at h; cases h; exact r.nilE
  | w :: ws, ls, vs, h, r => by
    obtain ⟨x, xs, rfl, rx, rs⟩ := r.consE
    cases w with
    | str l =>
      simp only [strs?] at h
      cases e : strs? ws with
      | none => rw [e] at h; cases h
      | some ls' => rw [e] at h; cases h; rw [rx.strE, strs?_ok e rs]; rfl
    | _ => simp only [strs?] at h; cases h
theorem strs?_map (ls : List (List Nat)) : strs? (ls.map W.str) = some ls := by
  induction ls with
  | nil => rfl
  | cons a r ih => show (strs? (r.map W.str)).map (a :: ·) = _; rw [ih]; rfl
def mJoin (x : W) (ws : List W) (st : List Cell) : R W := match x, ws with
  | .str sep, [.loc n] => ofO (lstOf st n) fun zs => ofO (strs? zs) fun ls => if (ls.map List.length).sum + ls.length * sep.length ≤ LIM then .ok (.str (joinN sep ls)) st else .bad
  | _, _ => .bad
theorem m_joinW : MtW X "str.join" mJoin := ⟨fun pins s σ H x vs v us Q I rv rus ⟨μ, st, wx, ws, S, rx, rs, q⟩ => by
  unfold mJoin at q
  split at q
  · rename_i sep n
    obtain ⟨y1, rfl, ry⟩ := rs.one
    cases e1 : lstOf st n with
    | none => rw [e1] at q; exact q.elim
    | some zs =>
      rw [e1, ofO_some] at q
      cases e2 : strs? zs with
      | none => rw [e2] at q; exact q.elim
      | some ls =>
        rw [e2, ofO_some] at q
        split at q
        · rename_i c
          obtain ⟨a, vs, g, hS, r⟩ := S.lstOf e1
          obtain ⟨b1, f1, rfl⟩ := ry.locE
          rw [g] at f1; cases f1
          have := strs?_ok e2 r
          subst this
          exact mt_join pins s σ H _ _ v us Q I rv rus ⟨sep, _, ls, rx.strE, rfl, hS, Nat.le_trans c (by decide), okW_str S q⟩
        · exact q.elim
  · exact q.elim, fun x ws st => by
  unfold mJoin
  split
  · exact ofO_n fun _ => ofO_n fun _ => by split <;> trivial
  · trivial⟩
end
end L2
set_option Elab.async false
set_option linter.all false
set_option maxRecDepth 100000
set_option maxHeartbeats 4000000
namespace L2
open PySem PySem.Spec PyProof.Rows
theorem PTs.imp {X : Cx} {e : List Expr} {t t' : TT} (h : PTs X e t) (i : ∀ σ H Q, t' σ H Q → t σ H Q) : PTs X e t' := fun pins s σ H Q I q => h pins s σ H Q I (i _ _ _ q)
section
variable {X : Cx} {elt tg iter : Expr} {ifs : List Expr} {scope : Scope} {pos : Pos} {nm : List Str} {cap : List (Option Nat)} {fi : FI} {f : FG} {t : FT} {el : FE} {m : Nat}
end
end L2
set_option Elab.async false
set_option linter.all false
set_option maxRecDepth 100000
set_option maxHeartbeats 4000000
namespace L2
open PySem PySem.Spec PyProof.Rows
section
variable {X : Cx} {a b c e o tg : Expr} {es : List Expr} {pos p p2 apos cpos : Pos} {x name : Str} {fa fb fc fe fo : FE} {fs : FA}
theorem walk_vals {μ : List Addr} {H : Hp} {ws : List W} {vals : List V} (hr : ∀ μ H, RelWs X.K μ H ws vals) : WalkOk X (Itv vals) (ws, none) μ H := fun i μ' st' H' pp xx S _ => by
  have hl : ws.length = vals.length := (hr μ H).len
  refine ⟨fun w hw => ?_, fun h => by show vals.length ≤ i; rw [← hl]; exact h⟩
  obtain ⟨v, g1, g2⟩ := (hr μ' H').get hw
  refine ⟨(List.getElem?_eq_some_iff.mp g1).1, fun y H'' hy => ?_⟩
  obtain ⟨rfl, hy⟩ := hy
  rw [g1] at hy; cases hy
  exact ⟨Ext.refl, S, g2⟩
def signsW (l : List Nat) : List W := l.map fun c => .str [c]
theorem signs_rel (l : List Nat) (μ : List Addr) (H : Hp) : RelWs X.K μ H (signsW l) (signsV l) := by
  induction l with
  | nil => exact .nilI
  | cons a r ih => exact .consI .str ih
def itStr (fe : FE) : FI := fun ρ st => (fe ρ st).bind fun x st => match x with
  | .str l => .ok (signsW l, none) st
  | _ => .bad
theorem si_str (he : SE X e fe) : SI X tg e (itStr fe) := ⟨(pi_str he.h).imp fun σ H R h => by
  obtain ⟨μ, ρ, st, l, h⟩ := h
  refine ⟨μ, ρ, st, l, RK.bind h l fun μ1 st1 x v H1 p1 x1 l1 q1 h1 => ?_⟩
  cases x with
  | str z => exact ⟨z, q1.strE, h1 μ1 _ H1 (List.prefix_refl _) Ext.refl l1.sto (walk_vals (signs_rel z))⟩
  | _ => exact h1.elim⟩
/-- a tuple, a list, a text -/
def itAny (fe : FE) : FI := fun ρ st => (fe ρ st).bind fun x st => match x with
  | .tup ws => .ok (ws, none) st
  | .loc n => (match lstOf st n with
    | some ws => .ok (ws, some (n, ws)) st
    | none => .bad)
  | .str l => .ok (signsW l, none) st
  | _ => .bad
theorem si_any (he : SE X e fe) : SI X tg e (itAny fe) := ⟨fun pins s σ H Rr I h => by
  obtain ⟨μ, ρ, st, l, h⟩ := h
  cases e1 : fe ρ st with
  | bad => simp only [itAny, e1, R.bind_bad] at h; exact h.elim
  | ex c st1 =>
    refine (si_tup (tg := tg) he).h pins s σ H Rr I ⟨μ, ρ, st, l, ?_⟩
    simp only [itAny, itTup, e1, R.bind_ex] at h ⊢; exact h
  | ok w st1 =>
    cases w with
    | tup ws =>
      refine (si_tup (tg := tg) he).h pins s σ H Rr I ⟨μ, ρ, st, l, ?_⟩
      simp only [itAny, itTup, e1, R.bind_ok] at h ⊢; exact h
    | loc n =>
      refine (si_lst (tg := tg) he).h pins s σ H Rr I ⟨μ, ρ, st, l, ?_⟩
      simp only [itAny, itLst, e1, R.bind_ok] at h ⊢; exact h
    | str z =>
      refine (si_str (tg := tg) he).h pins s σ H Rr I ⟨μ, ρ, st, l, ?_⟩
      simp only [itAny, itStr, e1, R.bind_ok] at h ⊢; exact h
    | _ => simp only [itAny, e1, R.bind_ok] at h; exact h.elim⟩
def eNeg (fa : FE) : FE := fun ρ st => (fa ρ st).bind fun x st => match x with
  | .int i => .ok (.int (-i)) st
  | _ => .bad
theorem s_neg (ha : SE X a fa) : SE X (.UnaryOp .USub a pos) (eNeg fa) := ⟨(pe_un un_neg ha.h).imp fun σ H Q h => by
  obtain ⟨μ, ρ, st, l, h⟩ := h
  refine ⟨μ, ρ, st, l, RK.bind h l fun μ1 st1 x v H1 p1 x1 l1 q1 h1 => ?_⟩
  cases x with
  | int k => exact ⟨k, q1.intE, h1 μ1 _ H1 (List.prefix_refl _) Ext.refl l1.sto .int⟩
  | _ => exact h1.elim⟩
/-- a <= b: ints, texts of one sign -/
def wLeD (x y : W) (st : List Cell) : R W := match x, y with
  | .int i, .int j => .ok (.bl (decide (i ≤ j))) st
  | .str [c], .str [d] => .ok (.bl (decide (c ≤ d))) st
  | _, _ => .bad
theorem w_leD : OpW X (compareOp .LtE) wLeD := ⟨fun pins s σ H x y v u Q I rv ru ⟨μ, st, wx, wy, S, rx, ry, q⟩ => by
  unfold wLeD at q
  split at q
  · exact op_le pins s σ H x y v u Q I rv ru ⟨_, _, rx.intE, ry.intE, okW_bl S q⟩
  · exact op_le_one pins s σ H x y v u Q I rv ru ⟨_, _, rx.strE, ry.strE, okW_bl S q⟩
  · exact q.elim, fun x y st => by unfold wLeD; split <;> trivial⟩
end
section
variable {X : Cx} {a b c e o tg : Expr} {es : List Expr} {pos p p2 apos cpos : Pos} {x name : Str} {fa fb fc fe fo : FE} {fs : FA}
end
end L2
set_option Elab.async false
set_option linter.all false
set_option maxRecDepth 100000
set_option maxHeartbeats 4000000
namespace L2
open PySem PySem.Spec PyProof.Rows
def W.ty : W → Option String
  | .non => some "NoneType" | .bl _ => some "bool" | .int _ => some "int" | .str _ => some "str" | .tup _ => some "tuple" | .loc _ => none
def isiT (t T : String) : Bool := (t == T) || (t == "bool" && T == "int")
theorem kit_W {K : PySem.W.Frag} {T : String} (h : knownT T) {w : W} {t : String} (hw : w.ty = some t) : PySem.W.kitOne K (.type t) (.type T) = some (isiT t T) := by
  cases w <;> simp only [W.ty] at hw <;> cases hw <;> (rcases h with rfl | rfl | rfl | rfl <;> rfl)
def eIsT (T : String) (fa : FE) : FE := fun ρ st => (fa ρ st).bind fun x st => match x.ty with
  | some t => .ok (.bl (isiT t T)) st
  | none => .bad
section
variable {X : Cx} {a b c e o tg : Expr} {es : List Expr} {pos p p2 apos cpos : Pos} {x name : Str} {fa fb fc fe fo : FE} {fs : FA}
theorem s_isT {T : String} {xT : Str} (hm : X.mg "isinstance" = none) (hT : X.mg xT = none) (hv : bootBuiltins xT = some (.type T)) (ha : SE X a fa) (hk : knownT T := by first | exact .inl rfl | exact .inr (.inl rfl) | exact .inr (.inr (.inl rfl)) | exact .inr (.inr (.inr rfl)))
    (hg : Gl X "isinstance" := by rfl) (hgT : Gl X xT := by rfl) (hn : xT ≠ "__name__" := by decide) (hd : (xT == ("__debug__" : Str)) = false := by decide)
    (he : starEach [a, .Name xT p2] X.env = (false, eval a X.env) :: starEach [.Name xT p2] X.env := by rfl) (he2 : starEach [.Name xT p2] X.env = (false, eval (.Name xT p2) X.env) :: starEach [] X.env := by rfl) (hpl : (backTo pos (starEach [.Name xT p2] X.env)).any (·.1) = false := by rfl) :
    SE X (.Call (.Name "isinstance" p) [a, .Name xT p2] [] pos) (eIsT T fa) := by
  have C : CallR X (.builtin "isinstance") (fun xs H Q => ∃ x μ st w t, xs = [x, .ty T] ∧ StR X.K X.mg μ st H ∧ RelW X.K μ H w x ∧ w.ty = some t ∧ Q (.bl (isiT t T)) H) := by
    intro pins s σ H xs us Q I r h
    obtain ⟨x, μ, st, w, t, rfl, S, rx, ht, q⟩ := h
    obtain ⟨u, u2, rfl, r1, r2⟩ := Vals.two r
    obtain rfl : u2 = .type T := r2
    have e := kit_W (K := X.K) hk ht
    cases w with
    | tup ws =>
      cases ht
      obtain ⟨p, vs, rfl, hS, _⟩ := rx.tupE
      cases (show u = Value.ref p from r1)
      obtain ⟨its, _, hp, _⟩ := I.tuple hS
      obtain ⟨o, h1, h2, _⟩ := hp
      exact PySem.W.kia_one PySem.W.kitx_tuple I.kIn ⟨o, h1, h2⟩ e (fun z => nomatch z) fun tk => ⟨.bl _, H, I.tok tk, rfl, q⟩
    | non => cases ht; cases rx.nonE; exact isinst_ok I r1 .non e fun tk => ⟨.bl _, H, I.tok tk, rfl, q⟩
    | bl b => cases ht; cases rx.blE; exact isinst_ok I r1 (.bl _) e fun tk => ⟨.bl _, H, I.tok tk, rfl, q⟩
    | int b => cases ht; cases rx.intE; exact isinst_ok I r1 (.int _) e fun tk => ⟨.bl _, H, I.tok tk, rfl, q⟩
    | str b => cases ht; cases rx.strE; exact isinst_ok I r1 (.str _) e fun tk => ⟨.bl _, H, I.tok tk, rfl, q⟩
    | loc b => cases ht
  refine ⟨(pe_callB C hg hm boot_isinstance (pa_cons ha.h (pa_cons (pe_bltn hgT hT hv (v := .ty T) rfl hn hd) pa_nil he2) he) (by decide) (by decide) he hpl).imp fun σ H Q h => ?_⟩
  obtain ⟨μ, ρ, st, l, h⟩ := h
  refine ⟨μ, ρ, st, l, RK.bind h l fun μ1 st1 x v H1 p1 x1 l1 q1 h1 => ?_⟩
  cases ht : x.ty with
  | none => rw [ht] at h1; exact h1.elim
  | some t =>
    rw [ht] at h1
    exact ⟨v, μ1, st1, x, t, rfl, l1.sto, q1, ht, h1 μ1 _ H1 (List.prefix_refl _) Ext.refl l1.sto .bl⟩
/-- nothing is said of what is asked at depth 0 -/
theorem hasW_bad {P : Program} {w : World} {K : PySem.W.Frag} {mg : Str → Option Value} {base : Heap} {k n : Nat} {x : Str} {st : Stmt} {f : Addr} {fd : FuncData} {ps : List Str}
    (F : Fun K x x st f fd) (hm : mg x = some (.ref f)) (hn : ps.length = n)
    (hb : ∀ (kV doc pm : Value) (an : Option Addr) (cdv ct : Value) (us : List Value), us.length = ps.length → bindArgs (PySem.W.fnOf x x (defArgs st) (defBody st) (defScope st) .none kV doc pm an cdv ct) ⟨us, []⟩ = pure (ps.zip us)) :
    HasW P w K mg base k x n (fun _ _ => .bad) := hasW_mk F hm hn hb ⟨fun vs H Q E h => by rw [hn]; exact h.1, fun _ _ _ _ _ _ _ _ _ _ _ _ _ h => by obtain ⟨_, _, _, _, _, _, z⟩ := h; exact z.elim⟩
end
/-- the law's function tells True of every row of ints -/
def LawOk (F : List W → List Cell → R W) : Prop := ∀ ns : List Int, ns.length ≤ 63 → ∃ st', F [.loc 0] [.ro (ns.map W.int)] = .ok (.bl true) st'
theorem walkW {l : PySem.W.OpenLaw} {k : Nat} {q : Program} {loose : List Str} {XP : (Str → Option Value) → Heap → Prop} {YP : World → Heap → Prop} {d : DefRec} {K : Params → PySem.W.Frag} {x : Str} {G : List W → List Cell → R W} (hn : l.most = some 63) (hdf : d.params.defaults = []) (hr : Room k callerA)
    (hY : ∀ (w : World) (h : Heap), YP w h → (K w.params).In h)
    (F : ∀ (w : World) (mg : Str → Option Value) (fa : Addr) (h : Heap), (K w.params).In h → h.Ns mainGlobals mg → mg d.name = some (.ref fa) →
      ∃ fd : FuncData, (∀ (s : Shared) (u : Value), BindsTo s fd ⟨[u], []⟩ [(x, u)]) ∧ ∀ base : Heap, (K w.params).In base → base.Ns mainGlobals mg → FnOk l.prog w (K w.params) mg base (CX1 l.prog w) k fa fd [x] (spW (K w.params) mg 1 G))
    (ok : LawOk G) : PySem.W.WalkO q loose XP YP l.row.toRowW d [] (fun f vs => PySem.call f vs) := by
  refine L2.walk_of (n := 63) (k := k) (x := x) (CX := fun w => CX1 l.prog w)
    (sp := fun w => fun vs H Q E => ∃ (a : Addr) (ns : List Int), vs = [.ref a] ∧ SqL (K w.params) H a (ns.map V.int) ∧ Only H ∧ ns.length ≤ 63 ∧ ∀ H', Q (.bl true) H') hn (by decide) hdf hr hY (fun w mg fa h h1 h2 h3 => ?_)
    (fun w H a ns hl hO hS => ⟨a, ns, rfl, hS, hO, hl, fun _ => rfl⟩) fun w H s e s' z => ?_
  · obtain ⟨fd, hb, ho⟩ := F w mg fa h h1 h2 h3
    refine ⟨fd, hb, fun base kb nb => (ho base kb nb).imp fun vs H Q E hh => ?_⟩
    obtain ⟨a, ns, rfl, hS, hO, hl, q⟩ := hh
    obtain ⟨st', e⟩ := ok ns hl
    have hro : RoL (K w.params) H a (ns.map V.int) := by
      rcases hS with (z | ⟨o, z⟩) | z
      · rcases hO a with y | ⟨o, xs, y⟩
        · rw [z] at y; cases y
        · rw [z] at y; cases y
      · exact .inl ⟨o, z⟩
      · exact .inr z
    have hr : RelWs (K w.params) [a] H (ns.map W.int) (ns.map V.int) := by
      clear hS hro e hl
      induction ns with
      | nil => exact .nilI
      | cons n r ih => exact .consI .int ih
    refine ⟨rfl, [a], [.loc 0], [.ro (ns.map W.int)], ⟨fun i j b ci cj c1 c2 r1 r2 m1 m2 => ?_, rfl, fun i c b c1 c2 => ?_⟩, .consI (.locI rfl) .nilI, ?_⟩
    · cases i with
      | zero => cases c1; cases r1
      | succ i => simp at c1
    · cases i with
      | zero => cases c1; cases c2; exact ⟨_, hro, hr⟩
      | succ i => simp at c1
    · rw [e]
      intro μ' v H' _ _ _ rv
      rw [rv.blE]; exact q H'
  · obtain ⟨_, _, _, _, _, _, z, _⟩ := z
    exact z
end L2
set_option Elab.async false
set_option linter.all false
set_option maxRecDepth 100000
set_option maxHeartbeats 4000000
namespace L2
open PySem PySem.Spec PyProof.Rows
abbrev bmVE : List Value := [.type "ValueError", .type "Exception", .type "BaseException", .type "object"]
abbrev newVE : String := "ValueError.__new__"
/-- the class's line of bases -/
def mroK (K : PySem.W.Frag) (C : Addr) : List Value := match K.lookup C with
  | some ⟨_, _, .cls cd, _⟩ => cd.mro
  | _ => []
theorem exc_obj {K : PySem.W.Frag} {h : Heap} {C : Addr} {bmB : List Value} {newId : String} (X : K.In h) (q : PySem.W.excIn K C bmB newId = true) :
    ∃ bm N nm qn bs hdct sn sub ab col dd k0 k1 k2 k3 k5 mN, h.get? C = some (excClassObj nm qn C N bs bm hdct sn sub ab col dd k0 k1 k2 k3 k5 newId) ∧ h.Ns N mN ∧ mN "__init__" = none ∧ OwnTail h bmB bm ∧ mroK K C = .ref C :: bm := by
  have q0 := q
  unfold PySem.W.excIn at q
  split at q
  · rename_i dd cd sl ho
    split at q
    · rename_i C' bm k0 k1 k2 k3 n k5 hm hs
      simp only [Bool.and_eq_true, beq_iff_eq, Bool.not_eq_true'] at q
      obtain ⟨⟨⟨⟨⟨rfl, rfl⟩, hdel⟩, ht⟩, hok⟩, hni⟩ := q
      have hmro : mroK K C' = cd.mro := by unfold mroK; rw [ho]
      obtain ⟨nm, bs, mro, ns, qn, hd, sn, sub, ab, col, del⟩ := cd
      dsimp only at hm hdel hok hni hmro
      subst hm hdel
      have hsl : sl = #[k0, k1, k2, k3, some (.builtin n), k5] := by
        obtain ⟨l⟩ := sl
        simp only at hs
        rw [hs]
      subst hsl
      exact ⟨bm, ns, nm, qn, bs, hd, sn, sub, ab, col, dd, k0, k1, k2, k3, k5, _, X _ _ ho, .of_isNs (PySem.W.isNs_of_in X hok), PySem.W.nsMap_none_of_in X hok hni, PySem.W.tail_of_in X ht, hmro⟩
    · cases q
  · cases q
structure ExcW (K : PySem.W.Frag) (mg : Str → Option Value) (x : Str) : Prop where
  ex : ∃ C, mg x = some (.ref C) ∧ PySem.W.excIn K C bmVE newVE = true
def xRaise (c : Str) : FS := fun ρ st => .ex c ρ st
theorem ss_raise {X : Cx} {x : Str} {np cpos pos p' : Pos} {z : Str} {j : Nat} (hC : ExcW X.K X.mg x) (hcalm : X.calm = true := by rfl) (hg : Gl X x := by rfl) (hd : (x == ("__debug__" : Str)) = false := by decide)
    (he : starEach [.Constant (.str z) j p'] X.env = (false, eval (.Constant (.str z) j p') X.env) :: starEach [] X.env := by rfl) : SS X (.Raise (some (.Call (.Name x np) [.Constant (.str z) j p'] [] cpos)) none pos) (xRaise x) := ⟨by
  intro pins s σ H D I h
  obtain ⟨μ, ρ, st, l, h⟩ := h
  obtain ⟨C, hm, q⟩ := hC.ex
  have hh : X.A.handled = none := I.ok.hd hcalm
  obtain ⟨bm, N, nm, qn, bs, hdct, sn, sub, ab, col, dd, k0, k1, k2, k3, k5, mN, g1, g2, g3, g4, g5⟩ := exc_obj I.kIn q
  refine wpAny_Raise_call_subT (C := C) (nm := nm) (q := qn) (N := N) (bs := bs) (bm := bm) (hdct := hdct) (sn := sn) (sub := sub) (ab := ab) (col := col) (dd := dd) (k0 := k0) (k1 := k1) (k2 := k2) (k3 := k3) (k5 := k5)
    F.excBase_ValueError (mN := mN) (g4.hasType F.excBase_ValueError.hasBase) hh (by rw [he]; rfl) g3 (ld_glob I hg hm ⟨rfl, ?_⟩ hd)
  rw [he]
  refine Calls.evalArgs_plain ?_
  show wpAny _ _ (spliced ((false, eval (.Constant (.str z) j p') X.env) :: [])) _ _ s
  refine Calls.spliced_cons (wpAny_Constant_str (Calls.spliced_nil ?_))
  refine ⟨rfl, (by show 1 ≤ sizeLine; decide), g1, g2, g4, fun h' e hx => ?_⟩
  have I2 : Inv X pins σ H { s with heap := h', toks := s.toks + 1 } := I.kept hx.keeps
  have en : H e = none := by
    cases hu : H e with
    | none => rfl
    | some u =>
      obtain ⟨ob, hob⟩ := (I.hok e u hu).ex
      have := hx.new
      rw [show ({ s with toks := s.toks + 1 } : Shared).heap = s.heap from rfl] at this
      rw [hob] at this; cases this
  obtain ⟨t, ht1, ht2, ht3⟩ := hx.there
  have hin : ∀ env ∈ X.stack, ∀ b, env.frame = some b → b ∈ frs X.stack := fun env he b hb => List.mem_filterMap.mpr ⟨env, he, hb⟩
  refine h pins μ σ H (.ref e) _ (List.prefix_refl _) Ext.refl l ⟨I2, e, .ref C, t, PySem.W.hideAll s.heap (frs X.stack), rfl, hm, en, fun b o hb => hx.keeps b o (PySem.W.of_hideAll _ hb), ?_, ?_, .inr ⟨_, _, ht1, rfl, rfl, rfl, rfl, rfl⟩, fun b o hb hr => ?_⟩
  · cases hq : (PySem.W.hideAll s.heap (frs X.stack)).get? e with
    | none => rfl
    | some o => have z := PySem.W.of_hideAll _ hq; have y := hx.new; rw [show ({ s with toks := s.toks + 1 } : Shared).heap = s.heap from rfl, z] at y; cases y
  · exact (PySem.W.funFrames_hide I.stack hin).of_keeps fun b o hb _ => ⟨o, hx.keeps b o hb, rfl⟩
  · have old : ∀ o0, s.heap.get? b = some o0 → s.heap.get? b = some o := fun o0 h0 => by
      have h1 : h'.get? b = some o0 := hx.keeps b o0 h0
      have h2 : h'.get? b = some o := hb
      rw [h1] at h2; rw [← h2]; exact h0
    have fin : ∀ o0, s.heap.get? b = some o0 → b ∉ frs X.stack → (PySem.W.hideAll s.heap (frs X.stack)).get? b = some o := fun o0 h0 hn => PySem.W.hideAll_get _ (old o0 h0) hn
    rcases hr with hr | ⟨⟨o0, h0⟩, hf, hbx⟩ | ⟨⟨y, hy⟩, hf⟩ | ⟨pp, hp, rfl⟩
    · cases hu : H b with
      | none => exact absurd hu hr
      | some u =>
        obtain ⟨ob, hob⟩ := (I.hok b u hu).ex
        exact fin ob hob fun z => by have := I.stkFree b z; rw [hu] at this; cases this
    · obtain ⟨o1, h1⟩ := I.base.there b o0 h0 hbx
      refine fin o1 h1 fun z => ?_
      rcases List.mem_cons.mp (I.stkSub b z) with z | z
      · rw [z] at h0; exact absurd (Nat.lt_of_lt_of_le (Heap.lt_size h0) I.ok.above) (Nat.lt_irrefl _)
      · exact hf z
    · obtain ⟨v, ov, hov, _⟩ := I.cell y b hy
      exact fin ov hov hf
    · obtain ⟨p1, p2, p3, p4, _⟩ := I.pin pp hp
      refine fin _ p1 fun z => ?_
      rcases List.mem_cons.mp (I.stkSub _ z) with z | z
      · exact p3 z
      · exact p4 z⟩
end L2
set_option Elab.async false
set_option linter.all false
set_option maxRecDepth 100000
set_option maxHeartbeats 4000000
namespace L2
open PySem PySem.Spec PyProof.Rows
theorem Inv.unbound {X : Cx} {pins : List (Addr × Obj)} {σ : St} {H : Hp} {s : Shared} {h' : Heap} {t' i : Nat} {x : Str} {v : Option Value} {m : Str → Option Value} (I : Inv X pins σ H s) (hN : X.N.Nodup) (hi : X.N[i]? = some x) (hn : s.heap.Ns X.env.locals m)
    (hn' : h'.Ns X.env.locals (fun y => if y = x then v else m y)) (hs : Heap.SameBut X.env.locals s.heap h') : Inv X pins (σ.set i none) H { s with heap := h', toks := t' } := by
  obtain ⟨m0, hn0, hl⟩ := id I.loc
  have em : m0 = m := by
    obtain ⟨o, es, ep, a1, a2, a3, a4⟩ := hn0
    obtain ⟨o', es', ep', b1, b2, b3, b4⟩ := hn
    rw [a1] at b1; cases b1
    rw [a2] at b2; cases b2
    funext y; rw [← a4, ← b4]
  subst em
  obtain ⟨oL, _, _, hoL, _⟩ := id hn0
  have cne := I.cne
  refine ⟨I.ok, I.os, I.bare, ⟨fun b o e n hb hx => ?_, fun b o e n hb hx => ?_, I.base.free, fun b o e hx => ?_, I.base.tups, I.base.frzs, I.base.tbls⟩, ⟨_, hn', fun j y w e1 e2 e3 => ?_⟩, fun y c e => ?_, I.free, I.freeC, fun p hp => ?_, fun b ob e => ?_, by simpa using I.len⟩
  · exact (hs.2 b (Nat.ne_of_lt (Nat.lt_of_lt_of_le (Heap.lt_size e) I.ok.above))).trans (I.base.keep b o e n hb hx)
  · obtain ⟨sl, e1⟩ := I.base.slot b o e n hb hx
    exact ⟨sl, (hs.2 b (Nat.ne_of_lt (Nat.lt_of_lt_of_le (Heap.lt_size e) I.ok.above))).trans e1⟩
  · obtain ⟨o', e1⟩ := I.base.there b o e hx
    exact ⟨o', (hs.2 b (Nat.ne_of_lt (Nat.lt_of_lt_of_le (Heap.lt_size e) I.ok.above))).trans e1⟩
  · by_cases hj : j = i
    · subst hj
      by_cases hlt : j < σ.length
      · rw [List.getElem?_set_self hlt] at e2; cases e2
      · rw [List.getElem?_eq_none (by simpa using hlt)] at e2; cases e2
    · rw [List.getElem?_set_ne (Ne.symm hj)] at e2
      obtain ⟨u', r', q⟩ := hl j y w e1 e2 e3
      refine ⟨u', r', ?_⟩
      rcases q with ⟨k, e⟩ | ⟨k, c, e, z⟩
      · refine .inl ⟨k, ?_⟩
        have : y ≠ x := fun e => hj (nodup_ix hN e1 (e ▸ hi))
        simp [this, e]
      · exact .inr ⟨k, c, e, z.sameBut hs (cne y c e)⟩
  · obtain ⟨w', z⟩ := I.cell y c e
    exact ⟨w', z.sameBut hs (cne y c e)⟩
  · obtain ⟨e, n, ne, nf, d⟩ := I.pin p hp
    exact ⟨(hs.2 p.1 ne).trans e, n, ne, nf, d⟩
  · refine (I.hok b ob e).stay (fun c w' hc q => (hs.2 c ?_).trans q) (fun _ q => q) fun _ _ q => q
    rintro rfl
    rcases hc with rfl | hc
    · rw [I.free] at e; cases e
    · rw [I.free] at hc; cases hc
/-- the frame's note and the landing, one after the other -/
theorem Flies.lands {X : Cx} {pins : List (Addr × Obj)} {σ : St} {c : Str} {H : Hp} {e : Value} {s : Shared} {Q : Unit → Shared → Prop} {E : Value → Shared → Prop} {M : Model} {outer : List Env} (f : Flies X pins σ c H e s) (hst : X.stack = X.env :: outer) (hfr : X.env.frame = some X.env.locals) (hA : X.A.frames = some X.stack)
    (h : ∀ x C t B h', e = .ref x → X.mg c = some C → H x = none → Heap.FlyingW B X.stack x C (.ref t) h' → s.heap.UpToSlots h' →
      (∀ b o, s.heap.get? b = some o → (H b ≠ none ∨ ((∃ o0, X.s₀.heap.get? b = some o0) ∧ b ∉ X.fs ∧ b ∉ X.ex) ∨ ((∃ y, X.env.cells.lookup y = some b) ∧ b ∉ frs X.stack) ∨ ∃ p ∈ X.pn ++ pins, p.1 = b) → B.get? b = some o) → Q () { s with heap := h' }) :
    wpAny M X.A (noteFrame e X.env) (fun _ s₂ => wpAny M X.A (setFlight e none) Q E s₂) E s := by
  obtain ⟨x, C, t, B, rfl, hC, hx, st, nx, ff, tr, cov⟩ := f.ex
  rw [hst] at ff hA
  rcases tr with tr | ⟨oe, vs, he, rfl, _, hd, h1, h0⟩
  · refine wpAny_looks_onW hA hfr ⟨st, nx, ff, tr⟩ fun h1 hh u1 => wpAny_landsW hh fun h2 fl u2 => ?_
    exact h x C t B h2 rfl hC hx (by rw [hst]; exact fl) (u1.trans u2) cov
  · unfold noteFrame
    simp only [hfr]
    refine wpAny_bind (wpAny_field he hd h1 ?_)
    rw [if_neg (by decide)]
    refine wpAny_newEntryW hA ff hfr he st nx hd (Array.getElem?_eq_some_iff.mp h1).1 h0 fun h' hL => ?_
    obtain ⟨k1, k2, k3, k4⟩ := hL
    exact h x _ t B h' rfl hC hx ⟨k1, nx, by rw [hst]; exact k2, k3⟩ k4 cov
/-- behind the landing all that counts is as it was -/
theorem Inv.landed {X : Cx} {pins : List (Addr × Obj)} {σ : St} {H : Hp} {s : Shared} {h' B : Heap} {x : Addr} {C : Value} {t : Addr} (I : Inv X pins σ H s) (fl : Heap.FlyingW B X.stack x C (.ref t) h') (up : s.heap.UpToSlots h') (hst : X.stack = X.env :: X.outer)
    (cov : ∀ b o, s.heap.get? b = some o → (H b ≠ none ∨ ((∃ o0, X.s₀.heap.get? b = some o0) ∧ b ∉ X.fs ∧ b ∉ X.ex) ∨ ((∃ y, X.env.cells.lookup y = some b) ∧ b ∉ frs X.stack) ∨ ∃ p ∈ X.pn ++ pins, p.1 = b) → B.get? b = some o) :
    Inv X pins σ H { s with heap := h' } := by
  obtain ⟨f1, f2, f3, f4⟩ := fl
  obtain ⟨m, hn, hl⟩ := id I.loc
  have cellK : ∀ y c, X.env.cells.lookup y = some c → ∀ v, s.heap.IsCell c v → h'.IsCell c v := fun y c e v ⟨o, ho, hd⟩ => by
    by_cases hc : c ∈ frs X.stack
    · obtain ⟨sl, q⟩ := up c o ho fun vs z => by rw [hd] at z; cases z
      exact ⟨_, q, hd⟩
    · exact ⟨o, f1 c o (cov c o ho (.inr (.inr (.inl ⟨⟨y, e⟩, hc⟩)))), hd⟩
  have frames : ∀ b ∈ X.fs, ∀ o, s.heap.get? b = some o → ∃ sl, h'.get? b = some { o with slots := sl } := fun b hb o ho => by
    obtain ⟨_, o', ho', hd⟩ := I.funs.mem hb
    rw [ho] at ho'; cases ho'
    exact up b o ho hd
  have kept : ∀ b o, s.heap.get? b = some o → (∃ o0, X.s₀.heap.get? b = some o0) → b ∉ X.fs → b ∉ X.ex → h'.get? b = some o := fun b o ho h0 hb hx => f1 b o (cov b o ho (.inr (.inl ⟨h0, hb, hx⟩)))
  refine ⟨I.ok, I.os, I.bare, ⟨fun b o q n hb hx => kept b o (I.base.keep b o q n hb hx) ⟨o, q⟩ hb hx, fun b o q n hb hx => ?_, I.base.free, fun b o q hx => ?_, I.base.tups, I.base.frzs, I.base.tbls⟩, ⟨m, up.ns hn, fun i y v e1 e2 e3 => ?_⟩, fun y c e => ?_, I.free, I.freeC, fun p hp => ?_, fun b u hb => ?_, I.len⟩
  · obtain ⟨sl, q1⟩ := I.base.slot b o q n hb hx
    obtain ⟨sl2, q2⟩ := frames b hb _ q1
    exact ⟨sl2, q2⟩
  · obtain ⟨o', q1⟩ := I.base.there b o q hx
    by_cases hb : b ∈ X.fs
    · obtain ⟨sl2, q2⟩ := frames b hb _ q1; exact ⟨_, q2⟩
    · exact ⟨o', kept b o' q1 ⟨o, q⟩ hb hx⟩
  · obtain ⟨u, r, lk⟩ := hl i y v e1 e2 e3
    refine ⟨u, r, ?_⟩
    rcases lk with lk | ⟨k, c, e, z⟩
    · exact .inl lk
    · exact .inr ⟨k, c, e, cellK y c e _ z⟩
  · obtain ⟨v, z⟩ := I.cell y c e
    exact ⟨v, cellK y c e v z⟩
  · obtain ⟨e, n, ne, nf, d⟩ := I.pin p hp
    exact ⟨f1 _ _ (cov _ _ e (.inr (.inr (.inr ⟨p, hp, rfl⟩)))), n, ne, nf, d⟩
  · refine (I.hok b u hb).stay (fun c v hc q => f1 c v (cov c v q (.inl ?_))) (fun _ q => q) fun _ _ q => q
    rcases hc with rfl | hc
    · rw [hb]; simp
    · rw [hc]; simp
/-- another wish and more pins -/
abbrev Cx.trying (X : Cx) (pn : List (Addr × Obj)) (E : Value → Shared → Prop) : Cx := { X with pn := pn, xe := E }
/-- within an except suite -/
abbrev Cx.within (X : Cx) (v : Value) : Cx := { X with A := X.A.mark (some v), calm := false, xe := fun _ _ => False }
theorem Cx.Ok.trying {X : Cx} (k : X.Ok) (pn : List (Addr × Obj)) (E : Value → Shared → Prop) : (X.trying pn E).Ok := ⟨k.mod, k.kind, k.glob, k.blt, k.above, k.inj, k.has, k.cab, k.hd, k.frames, k.stk, k.exf, k.bs, k.bsz, k.noex, k.exfs, k.funs, k.frf⟩
theorem Cx.Ok.within {X : Cx} (k : X.Ok) (v : Value) : (X.within v).Ok := ⟨k.mod, k.kind, k.glob, k.blt, k.above, k.inj, k.has, k.cab, (fun z => by cases z), k.frames, k.stk, k.exf, k.bs, k.bsz, k.noex, k.exfs, k.funs, k.frf⟩
section
variable {X : Cx} {pins : List (Addr × Obj)} {σ : St} {H : Hp} {s : Shared}
theorem Inv.trying (I : Inv X pins σ H s) (E : Value → Shared → Prop) : Inv (X.trying (X.pn ++ pins) E) [] σ H s := ⟨I.ok.trying _ _, I.os, I.bare, I.base, I.loc, I.cell, I.free, I.freeC, fun p hp => I.pin p (by simpa using hp), I.hok, I.len⟩
theorem Inv.tried {E : Value → Shared → Prop} {pins' : List (Addr × Obj)} (ok : X.Ok) (I : Inv (X.trying (X.pn ++ pins) E) pins' σ H s) : Inv X pins σ H s := ⟨ok, I.os, I.bare, I.base, I.loc, I.cell, I.free, I.freeC, fun p hp => I.pin p (List.mem_append_left _ hp), I.hok, I.len⟩
theorem Inv.within (I : Inv X pins σ H s) (v : Value) : Inv (X.within v) pins σ H s := ⟨I.ok.within v, I.os, I.bare, I.base, I.loc, I.cell, I.free, I.freeC, I.pin, I.hok, I.len⟩
theorem Inv.out {v : Value} (ok : X.Ok) (I : Inv (X.within v) pins σ H s) : Inv X pins σ H s := ⟨ok, I.os, I.bare, I.base, I.loc, I.cell, I.free, I.freeC, I.pin, I.hok, I.len⟩
/-- a record of ours that came since the entry is tracked from now on -/
theorem Inv.adopt {x : Addr} {ob : HO} (I : Inv X pins σ H s) (hx : H x = none) (h0 : X.s₀.heap.get? x = none) (hL : x ≠ X.env.locals) (hc : ∀ y c, X.env.cells.lookup y = some c → c ≠ x) (hp : ∀ p ∈ X.pn ++ pins, p.1 ≠ x) (ok : ObjOk X.prog X.w (upd H x ob) s.heap x ob) : Inv X pins σ (upd H x ob) s := by
  have hs : Same H (upd H x ob) := same_new hx ob
  refine ⟨I.ok, I.os, I.bare, ⟨I.base.keep, I.base.slot, fun b o q n hb => ?_, I.base.there, fun b xs q => hs _ _ (I.base.tups b xs q), fun b o u q => hs _ _ (I.base.frzs b o u q), fun b ps q => ?_⟩, I.loc, I.cell, ?_, fun y c e => ?_, fun p h => ?_, fun b u hb => ?_, I.len⟩
  · rw [upd_ne (fun z => by rw [z, h0] at q; cases q)]; exact I.base.free b o q n hb
  · obtain ⟨m, e⟩ := I.base.tbls b ps q; exact ⟨m, hs _ _ e⟩
  · rw [upd_ne (Ne.symm hL)]; exact I.free
  · rw [upd_ne (hc y c e)]; exact I.freeC y c e
  · obtain ⟨a, b, c, d, e⟩ := I.pin p h; exact ⟨a, by rw [upd_ne (hp p h)]; exact b, c, d, e⟩
  · by_cases e : b = x
    · subst e; rw [upd_same] at hb; cases hb; exact ok
    · rw [upd_ne e] at hb
      exact (I.hok b u hb).stay (fun _ _ _ q => q) (fun c q => hs _ _ q) fun c xs q => hs _ _ q
end
theorem excMatches_own {M : Model} {A : Around} {E : Value → Shared → Prop} {h : Heap} {g : Array GenState} {d : Drawn} {t : Nat} {os : OsState} {e : Addr} {oe : Obj} {Q : Bool → Shared → Prop} {nm qn nm' qn' : Str} {C N D N' : Addr} {bs bm bs' bm' : List Value} {hdct hdct' : Bool} {sn sn' : List Str} {sub sub' : List Value} {ab ab' : Bool} {col col' : Option Bool} {dd dd' : Option Addr} {k0 k1 k2 k3 k5 j0 j1 j2 j3 j5 : Option Value} {newId newId' : String}
    (hC : h.get? C = some (excClassObj nm qn C N bs bm hdct sn sub ab col dd k0 k1 k2 k3 k5 newId)) (hD : h.get? D = some (excClassObj nm' qn' D N' bs' bm' hdct' sn' sub' ab' col' dd' j0 j1 j2 j3 j5 newId')) (he : h.get? e = some oe) (hcls : oe.cls = .ref C) (hbase : bm'.contains (.type "BaseException") = true)
    {b : Bool} (hb : (Value.ref C :: bm).contains (.ref D) = b) (hq : Q b ⟨h, g, d, t, os⟩) : wpAny M A (excMatches (.ref e) (.ref D)) Q E ⟨h, g, d, t, os⟩ := by
  have hcB : (Value.ref D :: bm').contains (.type "BaseException") = true := by rw [List.contains_cons, hbase, Bool.or_true]
  have f := tc_notTuple
  unfold excMatches
  repeat (first | (with_reducible refine wpAny_loadPart_at he ?_; rw [hcls]) | with_reducible refine wpAny_loadPart_at hD ?_ | (with_reducible refine wpAny_isSubtype_exc hD ?_; rw [hcB]) | (with_reducible refine wpAny_isSubtype_exc hC ?_; rw [hb]) | wp_step)
  cases b <;> (wp_walk; exact hq)
end L2
set_option Elab.async false
set_option linter.all false
set_option maxRecDepth 100000
set_option maxHeartbeats 4000000
namespace L2
open PySem PySem.Spec PyProof.Rows
open AutoSeq1 (wpAny_loadPart')
theorem extend_tupO (l : Addr) (items : Array Value) (n : Nat) (b : Addr) (items2 : Array Value) (n2 : Nat) (dd : Option Addr) (sl : Array (Option Value)) (hs0 : ¬(!items.isEmpty && Builtin.List.listTooLong (items.size + items2.size)) = true) (hs1 : items.size ≤ sizeLine) (hs2 : items.size + items2.size ≤ sizeLine + 1) :
    Meets (Builtin.«list.extend» ⟨[.ref l, .ref b], []⟩) (fun _ R s => s.heap.get? l = some { cls := .type "list", dict := none, data := .seq items n, slots := #[] } ∧ s.heap.get? b = some { cls := .type "tuple", dict := dd, data := .seq items2 n2, slots := sl }
      ∧ R (.ok (.ret Value.none)) { s with heap := s.heap.update l (Obj.mapSeq fun x => x ++ items2), toks := s.toks }) :=
  .of_wp fun prog w A R s h => by
    have g1 := AutoSeq1.idx_int
    have g2 := AutoSeq1.sub_tuple_tuple
    have g3 := AutoSeq1.sub_list_list
    have g4 := AutoSeq1.sub_tuple_list
    have g5 := AutoSeq1.sub_list_tuple
    obtain ⟨hp, gl, ds, tk, os⟩ := s
    obtain ⟨ha, hb, q⟩ := h
    have fits : (items ++ items2).size ≤ sizeLine + 1 := by
      rw [Array.size_append]
      exact hs2
    wp_walk using (wpAny_updateSeq ha rfl (hz := hs1) (_hz' := fits)), wpAny_loadPart' ha, wpAny_loadPart' hb
    exact ⟨_, rfl, q⟩
def rExtendT (K : PySem.W.Frag) : V → List V → Hp → VK → Prop := fun x vs H Q => ∃ l b xs zs, x = .ref l ∧ vs = [.ref b] ∧ H l = some (.lst xs) ∧ SqT K H b zs ∧ xs.length + zs.length ≤ sizeLine ∧ Q .non (upd H l (.lst (xs ++ zs)))
section
variable {X : Cx}
theorem mt_extendT : MtM X "list.extend" (rExtendT X.K) := by
  intro pins s σ H x vs v us Q I rx rv h
  obtain ⟨l, b, xs, zs, rfl, rfl, hH, hB, hz, q⟩ := h
  cases rx
  obtain ⟨u, rfl, ru⟩ := rv.one
  cases ru
  obtain ⟨z, its, n, r, hl, e⟩ := I.lstM hH
  obtain ⟨its2, r2, ⟨o, e2, hc, n2, hd⟩, z2⟩ := I.tuple hB
  have hl2 := r2.length
  have hsz : its.toArray.size + its2.toArray.size ≤ sizeLine := by rw [List.size_toArray, List.size_toArray]; omega
  have hlong : ¬ (!its.toArray.isEmpty && Builtin.List.listTooLong (its.toArray.size + its2.toArray.size)) = true := by
    rw [notLongL hsz, Bool.and_false]
    exact Bool.false_ne_true
  obtain ⟨cls, dd, data, sl⟩ := o
  dsimp only at hc hd
  subst hc hd
  refine call_meets F.slot_list_extend ⟨_, e, rfl⟩ F.entry_list_extend (F.args_list_extend_2 _ _)
    (extend_tupO l its.toArray n b its2.toArray n2 dd sl hlong (by rw [List.size_toArray]; omega) (by omega)) ⟨e, e2, ?_⟩
  refine ⟨.non, _, I.lset (its' := its ++ its2) hH e (by simp) (r.append r2) ?_, rfl, q⟩
  rw [List.length_append]
  omega
/-- xs.extend(ys), ys a list or a tuple -/
def mExtendA (x : W) (ws : List W) (st : List Cell) : R W := match x, ws with
  | .loc n, [.tup ys] => (match st[n]? with
    | some (.lst zs) => if zs.length + ys.length ≤ LIM then .ok .non (st.set n (.lst (zs ++ ys))) else .bad
    | _ => .bad)
  | _, _ => mExtend x ws st
theorem m_extendAW : MtW X "list.extend" mExtendA := ⟨fun pins s σ H x vs v us Q I rv rus ⟨μ, st, wx, ws, S, rx, rs, q⟩ => by
  unfold mExtendA at q
  split at q
  · rename_i n ys
    obtain ⟨y1, rfl, ry⟩ := rs.one
    split at q
    · rename_i zs e1
      split at q
      · rename_i c
        obtain ⟨a1, g1, vs1, k1, r1⟩ := S.get e1
        obtain ⟨b1, f1, rfl⟩ := rx.locE
        rw [g1] at f1; cases f1
        obtain ⟨p, vs2, rfl, hS, r2⟩ := ry.tupE
        refine mt_extendT pins s σ H _ _ v us Q I rv rus ⟨a1, p, vs1, vs2, rfl, rfl, k1, hS, by rw [← r1.len, ← r2.len]; exact lim_le c, ?_⟩
        exact q μ _ _ (List.prefix_refl _) (SqT.but but_upd k1) (S.set e1 g1 k1 (r1.app r2)) .non
      · exact q.elim
    · exact q.elim
  · exact m_extendW.h pins s σ H x vs v us Q I rv rus ⟨μ, st, wx, ws, S, rx, rs, q⟩, fun x ws st => by
  unfold mExtendA
  split
  · repeat' split
    all_goals trivial
  · exact (m_extendW (X := X)).n x ws st⟩
def splitN (c : Nat) : List Nat → List (List Nat)
  | [] => [[]]
  | d :: r => if d = c then [] :: splitN c r else match splitN c r with
    | [] => [[d]]
    | p :: ps => (d :: p) :: ps
theorem splitN_ne (c : Nat) : ∀ l, splitN c l ≠ []
  | [] => by simp [splitN]
  | d :: r => by
    unfold splitN
    split
    · simp
    · split <;> simp
theorem splitN_join (c : Nat) : ∀ l, joinN [c] (splitN c l) = l
  | [] => rfl
  | d :: r => by
    have ih := splitN_join c r
    have hn := splitN_ne c r
    unfold splitN
    split
    · rename_i h
      subst h
      cases e : splitN d r with
      | nil => exact absurd e hn
      | cons p ps => rw [e] at ih; rw [joinN_tail, ih]; rfl
    · cases e : splitN c r with
      | nil => exact absurd e hn
      | cons p ps =>
        rw [e] at ih
        cases ps with
        | nil => rw [← ih]; rfl
        | cons p2 ps => rw [joinN_tail] at ih; rw [joinN_tail, ← ih]; rfl
theorem splitN_free (c : Nat) : ∀ l, ∀ w ∈ splitN c l, c ∉ w
  | [] => by simp [splitN]
  | d :: r => by
    have ih := splitN_free c r
    unfold splitN
    split
    · intro w hw
      rcases List.mem_cons.mp hw with rfl | hw
      · simp
      · exact ih w hw
    · rename_i h
      split
      · intro w hw
        simp only [List.mem_singleton] at hw
        subst hw
        simpa using fun z => h z.symm
      · rename_i p ps e
        intro w hw
        rcases List.mem_cons.mp hw with rfl | hw
        · intro z
          rcases List.mem_cons.mp z with z | z
          · exact h z.symm
          · exact ih p (by rw [e]; exact List.mem_cons_self) z
        · exact ih w (by rw [e]; exact List.mem_cons_of_mem _ hw)
theorem splitN_len (c : Nat) : ∀ l, (splitN c l).length ≤ l.length + 1
  | [] => by simp [splitN]
  | d :: r => by
    have ih := splitN_len c r
    unfold splitN
    split
    · simp; omega
    · split
      · simp
      · rename_i p ps e; rw [e] at ih; simp at ih ⊢; omega
theorem relWs_strs {K : PySem.W.Frag} {μ : List Addr} {H : Hp} : ∀ ls : List (List Nat), RelWs K μ H (ls.map W.str) (ls.map fun l => V.str (tx l))
  | [] => .nilI
  | _ :: r => .consI .str (relWs_strs r)
def mSplit (x : W) (ws : List W) (st : List Cell) : R W := match x, ws with
  | .str l, [.str [c]] => if l.length + 2 ≤ LIM then .ok (.loc st.length) (st ++ [.lst ((splitN c l).map W.str)]) else .bad
  | _, _ => .bad
theorem m_splitW : MtW X "str.split" mSplit := ⟨fun pins s σ H x vs v us Q I rv rus ⟨μ, st, wx, ws, S, rx, rs, q⟩ => by
  unfold mSplit at q
  split at q
  · rename_i l c
    obtain ⟨y1, rfl, ry⟩ := rs.one
    split at q
    · rename_i hc
      refine m_split.h pins s σ H x _ v us Q I rv rus ⟨c, splitN c l, by rw [rx.strE, splitN_join], by rw [ry.strE], splitN_ne c l, splitN_free c l, by rw [splitN_join]; exact lim_le hc, Nat.le_trans (splitN_len c l) (lim_le (by omega)), fun p H2 hp e => ?_⟩
      subst e
      exact q (μ ++ [p]) _ _ (List.prefix_append _ _) (SqT.same (same_new hp _)) (S.newLst hp (relWs_strs _)) (newLoc S)
    · exact q.elim
  · exact q.elim, fun x ws st => by
  unfold mSplit
  repeat' split
  all_goals trivial⟩
end
end L2
set_option Elab.async false
set_option linter.all false
set_option maxRecDepth 100000
set_option maxHeartbeats 4000000
namespace L2
open PySem PySem.Spec PyProof.Rows
section
variable {X : Cx} {a b c e o tg : Expr} {es : List Expr} {pos p p2 : Pos} {fa fb fe fo : FE} {fs : FA}
theorem ins_list {α : Type} (xs : List α) (k : Nat) (y : α) : ((xs.toArray.extract 0 k).push y ++ xs.toArray.extract k).toList = xs.take k ++ y :: xs.drop k := by
  simp
  exact List.take_of_length_le (by simp)
def rInsert : V → List V → Hp → VK → Prop := fun x vs H Q => ∃ (l : Addr) (xs : List V) (k : Nat) (y : V), x = .ref l ∧ vs = [.int k, y] ∧ H l = some (.lst xs) ∧ k ≤ xs.length ∧ xs.length + 1 ≤ sizeLine ∧ k < 1000000 ∧ Q .non (upd H l (.lst (xs.take k ++ y :: xs.drop k)))
theorem mt_insert : MtM X "list.insert" rInsert := by
  intro pins s σ H x vs v us Q I rx rv h
  obtain ⟨l, xs, k, y, rfl, rfl, hH, hk, hz, hk2, q⟩ := h
  cases rx
  obtain ⟨u, u2, rfl, r1, r2⟩ := Vals.two rv
  obtain ⟨t, rfl⟩ := r1
  obtain ⟨z, its, n, r, hl, e⟩ := I.lstM hH
  have hfit : ¬ (!Builtin.List.listFitsIndex (k : Int)) = true := by
    unfold Builtin.List.listFitsIndex
    simp; omega
  have hsz : its.toArray.size ≤ sizeLine := by rw [List.size_toArray]; omega
  obtain ⟨q0, hq0⟩ : ∃ q0 : Int, q0 = k := ⟨_, rfl⟩
  rw [← hq0] at hfit ⊢
  have M := AutoSeq1.list_insert_list_int_val_1 l its.toArray n q0 t u2 hfit hsz
  refine call_meets F.slot_list_insert ⟨_, e, rfl⟩ F.entry_list_insert (F.args_list_insert_3 _ _ _) M ⟨e, ?_⟩
  refine ⟨.non, _, I.lset (its' := its.take k ++ u2 :: its.drop k) hH e ?_ ((r.take k).append (.cons r2 (r.drop k))) ?_, rfl, q⟩
  · have h0 : ¬ (q0 < 0) := by omega
    have hm : min q0.toNat its.toArray.size = k := by rw [List.size_toArray]; omega
    simp only [if_neg h0, hm]
    apply Array.toList_inj.mp
    rw [ins_list]
  · rw [List.length_append, List.length_take, List.length_cons, List.length_drop]
    omega
def mInsert (x : W) (ws : List W) (st : List Cell) : R W := match x, ws with
  | .loc n, [.int k, y] => (match st[n]? with
    | some (.lst zs) => if 0 ≤ k ∧ k.toNat ≤ zs.length ∧ zs.length < LIM ∧ k < 1000000 then .ok .non (st.set n (.lst (zs.take k.toNat ++ y :: zs.drop k.toNat))) else .bad
    | _ => .bad)
  | _, _ => .bad
theorem m_insertW : MtW X "list.insert" mInsert := ⟨fun pins s σ H x vs v us Q I rv rus ⟨μ, st, wx, ws, S, rx, rs, q⟩ => by
  unfold mInsert at q
  split at q
  · rename_i n k y
    obtain ⟨y1, y2, rfl, ry1, ry2⟩ := rs.two
    split at q
    · rename_i zs e1
      split at q
      · rename_i cc
        obtain ⟨c1, c2, c3, c4⟩ := cc
        obtain ⟨k, rfl⟩ := Int.eq_ofNat_of_zero_le c1
        rw [Int.toNat_natCast] at c2 q
        obtain ⟨a1, g1, vs1, k1, r1⟩ := S.get e1
        obtain ⟨b1, f1, rfl⟩ := rx.locE
        rw [g1] at f1; cases f1
        have hl := r1.len
        have hL : vs1.length + 1 ≤ sizeLine := by rw [← hl]; exact lim_le c3
        refine mt_insert pins s σ H _ _ v us Q I rv rus ⟨a1, vs1, k, y2, rfl, by rw [ry1.intE], k1, by omega, hL, by omega, ?_⟩
        exact q μ _ _ (List.prefix_refl _) (SqT.but but_upd k1) (S.set e1 g1 k1 ((r1.take k).app (.consI ry2 (r1.drop k)))) .non
      · exact q.elim
    · exact q.elim
  · exact q.elim, fun x ws st => by
  unfold mInsert
  repeat' split
  all_goals trivial⟩
end
end L2
set_option Elab.async false
set_option linter.all false
set_option maxRecDepth 100000
set_option maxHeartbeats 4000000
namespace L2
open PySem PySem.Spec PyProof.Rows
def behind (i : Nat) : RS → RS
  | .nx ρ st => .nx (ρ.set i none) st
  | .bk ρ st => .bk (ρ.set i none) st
  | .ct ρ st => .ct (ρ.set i none) st
  | .rt w st => .rt w st
  | _ => .bad
def xTry (g : FS) (cs : List Str) (i : Nat) (gh : FS) : FS := fun ρ st => match g ρ st with
  | .ex c ρ' st' => if c ∈ cs then behind i (gh (ρ'.set i (some (.loc st'.length))) (st' ++ [.exc c])) else .bad
  | r => r
/-- the class T takes the classes cs -/
structure CatchW (K : PySem.W.Frag) (mg : Str → Option Value) (T : Str) (cs : List Str) : Prop where
  h : ∀ c ∈ cs, ∃ C Ta, mg c = some (.ref C) ∧ mg T = some (.ref Ta) ∧ PySem.W.excIn K C bmVE newVE = true ∧ PySem.W.excIn K Ta bmVE newVE = true ∧ (mroK K C).contains (.ref Ta) = true
theorem envR_unset {K : PySem.W.Frag} {μ : List Addr} {H : Hp} : ∀ {ρ : EnvW} {σ : St} (i : Nat), Paired (fun (o : Option W) (s : Option V) => ∀ w, o = some w → ∃ v, s = some v ∧ RelW K μ H w v) ρ σ →
    Paired (fun (o : Option W) (s : Option V) => ∀ w, o = some w → ∃ v, s = some v ∧ RelW K μ H w v) (ρ.set i none) (σ.set i none)
  | _, _, _, .nil => .nil
  | _, _, 0, .cons a t => .cons (fun w e => by cases e) t
  | _, _, i + 1, .cons a t => .cons a (envR_unset i t)
theorem StR.pushE {K : PySem.W.Frag} {mg : Str → Option Value} {μ : List Addr} {st : List Cell} {H : Hp} (S : StR K mg μ st H) {x : Addr} {c : Str} {C : Value} (hx : H x = none) (hc : mg c = some C) : StR K mg (μ ++ [x]) (st ++ [.exc c]) (upd H x (excAt x C)) :=
  S.push (c := .exc c) hx ⟨C, hc, upd_same⟩
theorem ss_try {X : Cx} {body suite : List Stmt} {b₀ : Stmt} {T n : Str} {i : Nat} {g gh : FS} {cs : List Str} {pos hpos np : Pos} (hC : CatchW X.K X.mg T cs) (hN : X.N.Nodup) (hi : X.N[i]? = some n) (hx : Loc X.env.scope n)
    (hb : ∀ pn E, SB (X.trying pn E) body g) (hs : ∀ v, SB (X.within v) (b₀ :: suite) gh) (hex : X.ex = [] := by rfl) (hst : X.stack = X.env :: X.outer := by rfl) (hfr : X.env.frame = some X.env.locals := by rfl) (hk : X.env.kindOf n = some .local := by rfl) (hg : Gl X T := by rfl) (hd : (T == ("__debug__" : Str)) = false := by decide)
    (hf : X.fn n = true ∨ X.env.scope.names.lookup n = some .local := by first | exact .inl rfl | exact .inr rfl) :
    SS X (.Try body [.ExceptHandler (some (.Name T np)) (some n) (b₀ :: suite) hpos] [] [] pos) (xTry g cs i gh) := ⟨by
  intro pins s σ H D I h
  obtain ⟨μ, ρ, st, l, h⟩ := h
  refine wpAny_Try_except ?_
  refine wpAny_mono ((hb (X.pn ++ pins) _).h [] s σ H D (I.trying _) ⟨μ, ρ, st, ⟨l.env, l.sto⟩, ?_⟩) (fun f s1 q => ?_) (fun _ _ q => q)
  · unfold xTry at h
    cases e : g ρ st with
    | nx ρ' st' => rw [e] at h; exact fun μ' σ' H' p x r => h μ' σ' H' p x ⟨r.env, r.sto⟩
    | bk ρ' st' => rw [e] at h; exact fun μ' σ' H' p x r => h μ' σ' H' p x ⟨r.env, r.sto⟩
    | ct ρ' st' => rw [e] at h; exact fun μ' σ' H' p x r => h μ' σ' H' p x ⟨r.env, r.sto⟩
    | rt w st' => rw [e] at h; exact h
    | bad => rw [e] at h; exact h
    | ex c ρ' st' =>
      rw [e] at h
      intro pins' μ' σ' H' ev s' pp xx r f
      dsimp only at h
      split at h
      · rename_i hc
        obtain ⟨Ca, Ta, m1, m2, q1, q2, hsub⟩ := hC.h c hc
        have I0 := f.inv
        refine f.lands hst hfr I.ok.frames fun ex C t B h' he hCc hxn fl up cov => ?_
        subst he
        obtain rfl : C = .ref Ca := by have := hCc.symm.trans m1; exact Option.some.inj this
        have I1 := I0.landed fl up hst cov
        have I2 : Inv X pins σ' H' { s' with heap := h' } := Inv.tried I.ok I1
        obtain ⟨oe, vs, _, _, _, heo, ⟨hcls, _⟩, hdat, _⟩ := fl.2.2.2
        have cov2 : ∀ b o, h'.get? b = some o → (H' b ≠ none ∨ ((∃ o0, X.s₀.heap.get? b = some o0) ∧ b ∉ X.fs ∧ b ∉ X.ex) ∨ ((∃ y, X.env.cells.lookup y = some b) ∧ b ∉ frs X.stack) ∨ ∃ p ∈ X.pn ++ pins, p.1 = b) → B.get? b = some o := by
          intro b o hbo hr
          have fin : ∀ o1, s'.heap.get? b = some o1 → (H' b ≠ none ∨ ((∃ o0, X.s₀.heap.get? b = some o0) ∧ b ∉ X.fs ∧ b ∉ X.ex) ∨ ((∃ y, X.env.cells.lookup y = some b) ∧ b ∉ frs X.stack) ∨ ∃ p ∈ (X.pn ++ pins) ++ pins', p.1 = b) → B.get? b = some o := fun o1 h1 hr => by
            have h2 := cov b o1 h1 hr
            have h3 := fl.1 b o1 h2
            rw [h3] at hbo; cases hbo; exact h2
          rcases hr with hr | ⟨⟨o0, h0⟩, hbf, hbx⟩ | ⟨⟨y, hy⟩, hbf⟩ | ⟨p, hp, rfl⟩
          · cases hu : H' b with
            | none => exact absurd hu hr
            | some u => obtain ⟨ob, hob⟩ := (I0.hok b u hu).ex; exact fin ob hob (.inl hr)
          · obtain ⟨o1, h1⟩ := I0.base.there b o0 h0 hbx
            exact fin o1 h1 (.inr (.inl ⟨⟨o0, h0⟩, hbf, hbx⟩))
          · obtain ⟨v, ov, hov, _⟩ := I0.cell y b hy
            exact fin ov hov (.inr (.inr (.inl ⟨⟨y, hy⟩, hbf⟩)))
          · obtain ⟨p1, _⟩ := I0.pin p (List.mem_append_left _ hp)
            exact fin _ p1 (.inr (.inr (.inr ⟨p, List.mem_append_left _ hp, rfl⟩)))
        have noB : ∀ o, B.get? ex = some o → False := fun o z => by have := fl.2.1; rw [z] at this; cases this
        obtain ⟨bm, N, nm, qn, bs, hdct, sn, sub, ab, col, dd, k0, k1, k2, k3, k5, mN, g1, g2, g3, g4, g5⟩ := exc_obj I2.kIn q1
        obtain ⟨bm', N', nm', qn', bs', hdct', sn', sub', ab', col', dd', j0, j1, j2, j3, j5, mN', g1', g2', g3', g4', g5'⟩ := exc_obj I2.kIn q2
        refine wpAny_handleBy_cons (codeAny_handlers_test ?_) (by intro z; cases z)
        refine ld_glob (X := X.within (.ref ex)) (I2.within _) hg m2 ?_ hd
        refine excMatches_own g1 g1' heo hcls (g4'.hasType F.excBase_ValueError.hasBase) (b := true) (by rw [← g5]; exact hsub) ?_
        refine codeAny_handlers_suite_as ?_
        refine lands_againW fl fun h2 fl2 up2 => ?_
        have I3 : Inv X pins σ' H' { s' with heap := h2 } := I2.landed fl2 up2 hst cov2
        obtain ⟨oe2, vs2, _, _, _, heo2, ⟨hcls2, _⟩, hdat2, _⟩ := fl2.2.2.2
        have I4 : Inv X pins σ' (upd H' ex (excAt ex (.ref Ca))) { s' with heap := h2 } := by
          refine I3.adopt hxn ?_ ?_ ?_ ?_ ?_
          · cases h0 : X.s₀.heap.get? ex with
            | none => rfl
            | some o0 =>
              exfalso
              by_cases hfs : ex ∈ X.fs
              · obtain ⟨_, o', ho', hd'⟩ := I3.funs.mem hfs
                have ho' : h2.get? ex = some o' := ho'
                rw [heo2] at ho'; cases ho'
                exact hd' _ hdat2
              · exact noB _ (cov2 ex oe heo (.inr (.inl ⟨⟨o0, h0⟩, hfs, by rw [hex]; simp⟩)))
          · rintro rfl
            obtain ⟨m, ⟨o, es, ep, a1, a2, _⟩, _⟩ := I3.loc
            have a1 : h2.get? _ = some o := a1
            rw [heo2] at a1; cases a1
            rw [hdat2] at a2; cases a2
          · rintro y c' hy rfl
            obtain ⟨v, o, a1, a2⟩ := I3.cell y _ hy
            have a1 : h2.get? _ = some o := a1
            rw [heo2] at a1; cases a1
            rw [hdat2] at a2; cases a2
          · rintro p hp rfl
            exact noB _ (cov2 p.1 oe heo (.inr (.inr (.inr ⟨p, hp, rfl⟩))))
          · refine ⟨⟨oe2, vs2, heo2, hcls2, hdat2⟩, ⟨oe2, heo2⟩, ?_⟩
            rintro ha hb' ⟨o, vs, z1, z2, z3⟩ keep
            exact ⟨o, vs, keep o z1, z2, z3⟩
        have hxt : Ext X.K H' (upd H' ex (excAt ex (.ref Ca))) := SqT.same (same_new hxn _)
        refine store_ok (X := X.within (.ref ex)) (I4.within _) hN hi hx (v := .ref ex) rfl (fun s5 I5 => ?_) hf
        have S4 : StR X.K X.mg (μ' ++ [ex]) (st' ++ [.exc c]) (upd H' ex (excAt ex (.ref Ca))) := StR.pushE r.sto hxn m1
        have L4 : Rl (X.within (.ref ex)) (μ' ++ [ex]) (ρ'.set i (some (.loc st'.length))) (st' ++ [.exc c]) (σ'.set i (some (.ref ex))) (upd H' ex (excAt ex (.ref Ca))) :=
          ⟨envR_set (newLoc r.sto) i (envR_mono (List.prefix_append _ _) hxt r.env), S4⟩
        have pm : μ <+: μ' ++ [ex] := pp.trans (List.prefix_append _ _)
        have xm : Ext X.K H (upd H' ex (excAt ex (.ref Ca))) := xx.trans hxt
        have hp : (X.env.scope.kind == .class || (X.env.scope.kind == .module && X.env.locals != X.env.globals)) = false := by rw [I.ok.kind]; rfl
        refine wpAny_mono ((hs (.ref ex)).h pins s5 _ _ { nx := fun σ H => D.nx (σ.set i none) H, rt := D.rt, bk := fun σ H => D.bk (σ.set i none) H, ct := fun σ H => D.ct (σ.set i none) H } I5 ⟨μ' ++ [ex], _, _, L4, ?_⟩) (fun f6 s6 q => ?_) (fun _ _ z => z.elim)
        · cases e2 : gh (ρ'.set i (some (.loc st'.length))) (st' ++ [.exc c]) with
          | nx ρ2 st2 => rw [e2] at h; exact fun μ3 σ3 H3 p3 x3 r3 => h μ3 (σ3.set i none) H3 (pm.trans p3) (xm.trans x3) ⟨envR_unset i r3.env, r3.sto⟩
          | bk ρ2 st2 => rw [e2] at h; exact fun μ3 σ3 H3 p3 x3 r3 => h μ3 (σ3.set i none) H3 (pm.trans p3) (xm.trans x3) ⟨envR_unset i r3.env, r3.sto⟩
          | ct ρ2 st2 => rw [e2] at h; exact fun μ3 σ3 H3 p3 x3 r3 => h μ3 (σ3.set i none) H3 (pm.trans p3) (xm.trans x3) ⟨envR_unset i r3.env, r3.sto⟩
          | rt w st2 => rw [e2] at h; exact fun μ3 v H3 p3 x3 S3 r3 => h μ3 v H3 (pm.trans p3) (xm.trans x3) S3 r3
          | ex c2 ρ2 st2 => rw [e2] at h; exact h.elim
          | bad => rw [e2] at h; exact h.elim
        · cases f6 with
          | next =>
            obtain ⟨σ6, H6, I6, q⟩ := q
            have I6' : Inv X pins σ6 H6 s6 := Inv.out I.ok I6
            obtain ⟨m, hn, hl⟩ := id I6'.loc
            exact wpAny_nameGoes_keeps hk hn hp fun h7 v hn7 hs7 => ⟨_, H6, I6'.unbound hN hi hn hn7 hs7, q⟩
          | brk =>
            obtain ⟨σ6, H6, I6, q⟩ := q
            have I6' : Inv X pins σ6 H6 s6 := Inv.out I.ok I6
            obtain ⟨m, hn, hl⟩ := id I6'.loc
            exact wpAny_nameGoes_keeps hk hn hp fun h7 v hn7 hs7 => ⟨_, H6, I6'.unbound hN hi hn hn7 hs7, q⟩
          | cont =>
            obtain ⟨σ6, H6, I6, q⟩ := q
            have I6' : Inv X pins σ6 H6 s6 := Inv.out I.ok I6
            obtain ⟨m, hn, hl⟩ := id I6'.loc
            exact wpAny_nameGoes_keeps hk hn hp fun h7 v hn7 hs7 => ⟨_, H6, I6'.unbound hN hi hn hn7 hs7, q⟩
          | ret u =>
            obtain ⟨v6, σ6, H6, I6, rr, q⟩ := q
            have I6' : Inv X pins σ6 H6 s6 := Inv.out I.ok I6
            obtain ⟨m, hn, hl⟩ := id I6'.loc
            exact wpAny_nameGoes_keeps hk hn hp fun h7 v hn7 hs7 => ⟨v6, _, H6, I6'.unbound hN hi hn hn7 hs7, rr, q⟩
      · exact h.elim
  · cases f with
    | next =>
      obtain ⟨σ', H', I', q⟩ := q
      exact wpAny_execs_nil ⟨σ', H', Inv.tried I.ok I', q⟩
    | brk => obtain ⟨σ', H', I', q⟩ := q; exact ⟨σ', H', Inv.tried I.ok I', q⟩
    | cont => obtain ⟨σ', H', I', q⟩ := q; exact ⟨σ', H', Inv.tried I.ok I', q⟩
    | ret u => obtain ⟨v, σ', H', I', rr, q⟩ := q; exact ⟨v, σ', H', Inv.tried I.ok I', rr, q⟩⟩
end L2
set_option Elab.async false
set_option linter.all false
set_option maxRecDepth 100000
set_option maxHeartbeats 4000000
namespace L2
open PySem PySem.Spec PyProof.Rows
section
variable {prog : Program} {w : World} {A : Around} {E : Value → Shared → Prop} {h : Heap} {g : Array GenState} {d : Drawn} {t : Nat} {os : OsState} {a : Addr} {o : Obj}
  {nm q : Str} {C N : Addr} {bs bm : List Value} {hdct : Bool} {sn : List Str} {sub : List Value} {ab : Bool} {col : Option Bool} {dd : Option Addr} {k0 k1 k2 k3 k5 : Option Value} {newId : String} {K : PySem.W.Frag}
theorem xc_get {R : Result → Shared → Prop} (hC : h.get? C = some (excClassObj nm q C N bs bm hdct sn sub ab col dd k0 k1 k2 k3 k5 newId)) (T : OwnTail h bmVE bm) (hx : h.get? a = some o) (hc : o.cls = .ref C) (hq : R (.ok (.ret (.ref C))) ⟨h, g, d, t, os⟩) :
    codeAny (model prog w) A (.call (.builtin "getset_descriptor.__get__") ⟨[.builtin "object.__class__", .ref a, .ref C], []⟩) R ⟨h, g, d, t, os⟩ := by
  have hT5 : (⟨h, g, d, t, os⟩ : Shared).TypeIs (.builtin "object.__class__") "getset_descriptor" := F.typeOf_object_class
  have hcB : (Value.ref C :: bm).contains (.type (".".intercalate ("object.__class__".cutAt '.').dropLast)) = true := by
    rw [F.owner_object_class, List.contains_cons, T.hasType (X := "object") (b := true) (by decide)]
    rfl
  refine codeAny_call_builtin F.slot_gs_get.plain F.entry_gs_get (F.slot_gs_get.check _ _ _ _ _ _ _ _ hT5 (F.args_gs_get _ _ _) ?_)
  repeat (any_goals (first | assumption | (with_reducible refine wpAny_loadPart_at hx ?_; rw [hc]) | (with_reducible refine wpAny_isSubtype_exc hC ?_; rw [hcB]) | wp_step))
  refine ⟨Code.quiet_builtin _ (by decide +kernel), codeAny_builtin F.entry_object_class ?_⟩
  repeat (any_goals (first | assumption | (with_reducible refine wpAny_loadPart_at hx ?_; rw [hc]) | wp_step))
theorem xc_look {Q : Option Value → Shared → Prop} {x : Str} {r : Option Value} (X : K.In h) (f : PySem.W.findIn K (.ref C) x = some r) (hq : Q r ⟨h, g, d, t, os⟩) : wpAny (model prog w) A (typeLookup (.ref C) x) Q E ⟨h, g, d, t, os⟩ :=
  PySem.W.looks_findIn X f A Q E _ (fun _ _ z => z) hq
theorem xc_entry {tk : Tok} {Q : Fin → Shared → Prop} (X : K.In h) (f2 : PySem.W.findIn K (.ref C) "__class__" = some (some (.builtin "object.__class__"))) (hC : h.get? C = some (excClassObj nm q C N bs bm hdct sn sub ab col dd k0 k1 k2 k3 k5 newId)) (T : OwnTail h bmVE bm) (hx : h.get? a = some o) (hc : o.cls = .ref C)
    (hq : Q (.done (.ret (.ref C))) ⟨h, g, d, t, os⟩) : wpAny (model prog w) A (Builtin.«object.__getattribute__» ⟨[.ref a, .str "__class__" tk], []⟩) Q E ⟨h, g, d, t, os⟩ := by
  have hT5 : (⟨h, g, d, t, os⟩ : Shared).TypeIs (.builtin "object.__class__") "getset_descriptor" := F.typeOf_object_class
  have f5 := F.typeOf_object_class
  have f6 := F.slot_gs_get.lookup
  have f7 := F.slot_gs_set.lookup
  repeat (any_goals (first | assumption | (with_reducible refine wpAny_loadPart_at hx ?_; rw [hc]) | with_reducible refine xc_look X f2 ?_ | wp_step))
  refine xc_get hC T hx hc ?_
  repeat (any_goals (first | assumption | wp_step))
theorem xc_check {M : Model} {v : Value} {Q : Unit → Shared → Prop} (hC : h.get? C = some (excClassObj nm q C N bs bm hdct sn sub ab col dd k0 k1 k2 k3 k5 newId)) (T : OwnTail h bmVE bm) (hx : h.get? a = some o) (hc : o.cls = .ref C) (hq : Q () ⟨h, g, d, t, os⟩) :
    wpAny M A (checkBuiltinCall "BaseException.__getattribute__" ⟨[.ref a, v], []⟩) Q E ⟨h, g, d, t, os⟩ := by
  have hcB : (Value.ref C :: bm).contains (.type "BaseException") = true := by
    rw [List.contains_cons, T.hasType (X := "BaseException") (b := true) (by decide)]
    rfl
  have ha := F.args_bexc_ga (.ref a) v
  have kd : builtinKind "BaseException.__getattribute__" = some .slot := by decide +kernel
  have sp : splitId "BaseException.__getattribute__" = some ("BaseException", "__getattribute__") := by decide +kernel
  simp only [checkBuiltinCall, kd, sp]
  refine wpAny_bind ?_
  unfold isInstance
  repeat (first | (with_reducible refine wpAny_loadPart_at hx ?_; rw [hc]) | (with_reducible refine wpAny_isSubtype_exc hC ?_; rw [hcB]) | wp_step)
  exact hq
theorem xc_call {tk : Tok} {R : Result → Shared → Prop} (X : K.In h) (f2 : PySem.W.findIn K (.ref C) "__class__" = some (some (.builtin "object.__class__"))) (hC : h.get? C = some (excClassObj nm q C N bs bm hdct sn sub ab col dd k0 k1 k2 k3 k5 newId)) (T : OwnTail h bmVE bm) (hx : h.get? a = some o) (hc : o.cls = .ref C)
    (hq : R (.ok (.ret (.ref C))) ⟨h, g, d, t, os⟩) : codeAny (model prog w) A (.call (.builtin "BaseException.__getattribute__") ⟨[.ref a, .str "__class__" tk], []⟩) R ⟨h, g, d, t, os⟩ :=
  codeAny_call_builtin F.attrBase_ValueError.ga.plain F.entry_bexc_ga (xc_check hC T hx hc (xc_entry X f2 hC T hx hc hq))
theorem xc_by {tk : Tok} {Q : Value → Shared → Prop} (X : K.In h) (f1 : PySem.W.findIn K (.ref C) "__getattribute__" = some (some (.builtin "BaseException.__getattribute__"))) (f3 : PySem.W.findIn K (.ref C) "__getattr__" = some none) (f2 : PySem.W.findIn K (.ref C) "__class__" = some (some (.builtin "object.__class__")))
    (hC : h.get? C = some (excClassObj nm q C N bs bm hdct sn sub ab col dd k0 k1 k2 k3 k5 newId)) (T : OwnTail h bmVE bm) (hx : h.get? a = some o) (hc : o.cls = .ref C) (hq : Q (.ref C) ⟨h, g, d, t, os⟩) :
    wpAny (model prog w) A (getAttrBy (.ref a) (.str "__class__" tk) false) Q E ⟨h, g, d, t, os⟩ := by
  have f4 := F.attrBase_ValueError.ga.bind (.ref a)
  have hx2 : (Value.builtin "BaseException.__getattribute__" == Value.builtin "object.__getattribute__") = false := by decide +kernel
  have hx1 : (onTheHeap (Value.ref C) && Value.builtin "BaseException.__getattribute__" == Value.builtin "object.__getattribute__") = false := by rw [hx2]; rfl
  repeat (any_goals (first | assumption | (with_reducible refine wpAny_loadPart_at hx ?_; rw [hc]) | with_reducible refine xc_look X f1 ?_ | with_reducible refine xc_look X f3 ?_ | wp_step))
  refine xc_call X f2 hC T hx hc ?_
  repeat (any_goals (first | assumption | wp_step))
theorem xc_attr {Q : Option Value → Shared → Prop} (X : K.In h) (f1 : PySem.W.findIn K (.ref C) "__getattribute__" = some (some (.builtin "BaseException.__getattribute__"))) (f3 : PySem.W.findIn K (.ref C) "__getattr__" = some none) (f2 : PySem.W.findIn K (.ref C) "__class__" = some (some (.builtin "object.__class__")))
    (hC : h.get? C = some (excClassObj nm q C N bs bm hdct sn sub ab col dd k0 k1 k2 k3 k5 newId)) (T : OwnTail h bmVE bm) (hx : h.get? a = some o) (hc : o.cls = .ref C) (hq : Q (some (.ref C)) ⟨h, g, d, t + 1, os⟩) :
    wpAny (model prog w) A (getAttr? (.ref a) "__class__") Q E ⟨h, g, d, t, os⟩ := by
  unfold getAttr? getAttrBy?
  repeat (any_goals (first | assumption | with_reducible apply xc_by X f1 f3 f2 hC T hx hc | wp_step))
end
end L2
set_option Elab.async false
set_option linter.all false
set_option maxRecDepth 100000
set_option maxHeartbeats 4000000
namespace L2
open PySem PySem.Spec PyProof.Rows
/-- what is known of an own class's names -/
structure ExcNm (K : PySem.W.Frag) (C : Addr) : Prop where
  ga : PySem.W.findIn K (.ref C) "__getattribute__" = some (some (.builtin "BaseException.__getattribute__"))
  gt : PySem.W.findIn K (.ref C) "__getattr__" = some none
  cl : PySem.W.findIn K (.ref C) "__class__" = some (some (.builtin "object.__class__"))
theorem kitx_exc {K : PySem.W.Frag} {x C : Addr} (q : PySem.W.excIn K C bmVE newVE = true) (n : ExcNm K C) : PySem.W.KitX K (.ref x) (.ref C) (fun h => ∃ o, h.get? x = some o ∧ o.cls = .ref C) where
  ty := fun M h X ⟨o, h1, h2⟩ A Q E s k z => by
    unfold typeOf
    refine wpAny_bind (wpAny_loadPart (k _ _ h1) ?_)
    rw [h2]
    exact wpAny_pure z
  it := fun M h X _ A Q E s k z => by
    obtain ⟨bm, N, nm, qn, bs, hdct, sn, sub, ab, col, dd, k0, k1, k2, k3, k5, mN, g1, _⟩ := exc_obj X q
    unfold isType loadHead
    exact wpAny_bind (wpAny_loadPart (k _ _ g1) (wpAny_pure z))
  ne := fun h tp dd its m sl X htp => by
    obtain ⟨bm, N, nm, qn, bs, hdct, sn, sub, ab, col, dd', k0, k1, k2, k3, k5, mN, g1, _⟩ := exc_obj X q
    refine Bool.eq_false_iff.mpr fun z => ?_
    have e : C = tp := Value.ref.inj (beq_iff_eq.mp z)
    subst e
    rw [g1] at htp
    have z2 : (Value.type "type") = .type "tuple" := congrArg Obj.cls (Option.some.inj htp)
    exact absurd z2 (by decide)
  ca := fun {prog w A E Q s} X p z => by
    obtain ⟨o, h1, h2⟩ := p
    obtain ⟨bm, N, nm, qn, bs, hdct, sn, sub, ab, col, dd, k0, k1, k2, k3, k5, mN, g1, g2, g3, g4, g5⟩ := exc_obj X q
    obtain ⟨h, g, d, t, os⟩ := s
    exact xc_attr X n.ga n.gt n.cl g1 g4 h1 h2 z
/-- isinstance of a caught exception, by its class's name: what each class is told of -/
structure IsiW (K : PySem.W.Frag) (mg : Str → Option Value) (T : Value) (f : Str → Option Bool) : Prop where
  h : ∀ c b, f c = some b → ∃ C, mg c = some (.ref C) ∧ PySem.W.excIn K C bmVE newVE = true ∧ ExcNm K C ∧ PySem.W.kitOne K (.ref C) T = some b
theorem call_isiE {X : Cx} {T : V} {Tv : Value} (hT : ∀ u, RelV T u → u = Tv) {f : Str → Option Bool} (hI : IsiW X.K X.mg Tv f) :
    CallR X (.builtin "isinstance") (fun xs H Q => ∃ x μ st n c b, xs = [x, T] ∧ StR X.K X.mg μ st H ∧ RelW X.K μ H (.loc n) x ∧ st[n]? = some (.exc c) ∧ f c = some b ∧ Q (.bl b) H) := by
  intro pins s σ H xs us Q I r h
  obtain ⟨x, μ, st, n, c, b, rfl, S, rx, hn, hf, q⟩ := h
  obtain ⟨u, u2, rfl, r1, r2⟩ := Vals.two r
  obtain rfl := hT u2 r2
  obtain ⟨C, hm, hq, hnm, hk⟩ := hI.h c b hf
  obtain ⟨a, ha, C', hm', hH⟩ := S.get hn
  obtain ⟨a', ha', rfl⟩ := rx.locE
  rw [ha] at ha'; cases ha'
  rw [hm] at hm'; cases hm'
  cases (show u = Value.ref a from r1)
  obtain ⟨⟨o, vs, h1, h2, h3⟩, _⟩ := I.hok a _ hH
  exact PySem.W.kia_one (kitx_exc hq hnm) I.kIn ⟨o, h1, h2⟩ hk (fun z => nomatch z) fun tk => ⟨.bl _, H, I.tok tk, rfl, q⟩
def eIsE (f : Str → Option Bool) (fa : FE) : FE := fun ρ st => (fa ρ st).bind fun x st => match x with
  | .loc n => (match st[n]? with
    | some (.exc c) => (match f c with
      | some b => .ok (.bl b) st
      | none => .bad)
    | _ => .bad)
  | _ => .bad
section
variable {X : Cx} {a : Expr} {pos p p2 : Pos} {fa : FE}
theorem isE_of {T : V} {f : Str → Option Bool} {t : TE} {e : Expr} (h : PE X e t) (hi : ∀ σ H Q, (tE X fa) σ H (fun x H1 => ∃ x' μ st n c b, ([x, T] : List V) = [x', T] ∧ StR X.K X.mg μ st H1 ∧ RelW X.K μ H1 (.loc n) x' ∧ st[n]? = some (.exc c) ∧ f c = some b ∧ Q (.bl b) H1) → t σ H Q) : SE X e (eIsE f fa) := ⟨h.imp fun σ H Q z => by
  refine hi σ H Q ?_
  obtain ⟨μ, ρ, st, l, z⟩ := z
  refine ⟨μ, ρ, st, l, RK.bind z l fun μ1 st1 x v H1 p1 x1 l1 q1 h1 => ?_⟩
  split at h1
  · rename_i n
    split at h1
    · rename_i c e1
      split at h1
      · rename_i b e2
        exact ⟨v, μ1, st1, n, c, b, rfl, l1.sto, q1, e1, e2, h1 μ1 _ H1 (List.prefix_refl _) Ext.refl l1.sto .bl⟩
      · exact h1.elim
    · exact h1.elim
  · exact h1.elim⟩
/-- isinstance(e, C), C an own class -/
theorem s_isC {xT : Str} {Ta : Addr} {f : Str → Option Bool} (hm : X.mg "isinstance" = none) (hT : X.mg xT = some (.ref Ta)) (hI : IsiW X.K X.mg (.ref Ta) f) (ha : SE X a fa) (hg : Gl X "isinstance" := by rfl) (hgT : Gl X xT := by rfl) (hd : (xT == ("__debug__" : Str)) = false := by decide)
    (he : starEach [a, .Name xT p2] X.env = (false, eval a X.env) :: starEach [.Name xT p2] X.env := by rfl) (he2 : starEach [.Name xT p2] X.env = (false, eval (.Name xT p2) X.env) :: starEach [] X.env := by rfl) (hpl : (backTo pos (starEach [.Name xT p2] X.env)).any (·.1) = false := by rfl) :
    SE X (.Call (.Name "isinstance" p) [a, .Name xT p2] [] pos) (eIsE f fa) :=
  isE_of (T := .ref Ta) (pe_callB (call_isiE (T := .ref Ta) (Tv := .ref Ta) (fun _ r => r) hI) hg hm boot_isinstance (pa_cons ha.h (pa_cons (pe_glob hgT hT (v := .ref Ta) rfl hd) pa_nil he2) he) (by decide) (by decide) he hpl) fun _ _ _ z => z
/-- isinstance(e, C), C of Python -/
theorem s_isB {xT : Str} {T : String} {f : Str → Option Bool} (hm : X.mg "isinstance" = none) (hT : X.mg xT = none) (hv : bootBuiltins xT = some (.type T)) (hI : IsiW X.K X.mg (.type T) f) (ha : SE X a fa) (hg : Gl X "isinstance" := by rfl) (hgT : Gl X xT := by rfl) (hn : xT ≠ "__name__" := by decide) (hd : (xT == ("__debug__" : Str)) = false := by decide)
    (he : starEach [a, .Name xT p2] X.env = (false, eval a X.env) :: starEach [.Name xT p2] X.env := by rfl) (he2 : starEach [.Name xT p2] X.env = (false, eval (.Name xT p2) X.env) :: starEach [] X.env := by rfl) (hpl : (backTo pos (starEach [.Name xT p2] X.env)).any (·.1) = false := by rfl) :
    SE X (.Call (.Name "isinstance" p) [a, .Name xT p2] [] pos) (eIsE f fa) :=
  isE_of (T := .ty T) (pe_callB (call_isiE (T := .ty T) (Tv := .type T) (fun _ r => r) hI) hg hm boot_isinstance (pa_cons ha.h (pa_cons (pe_bltn hgT hT hv (v := .ty T) rfl hn hd) pa_nil he2) he) (by decide) (by decide) he hpl) fun _ _ _ z => z
end
end L2
set_option Elab.async false
set_option linter.all false
set_option maxRecDepth 100000
set_option maxHeartbeats 4000000
namespace L2
open PySem PySem.Spec PyProof.Rows
/-- names of classes, one by one -/
inductive Nms (X : Cx) : List Expr → List Addr → Prop
  | nil : Nms X [] []
  | cons {x : Str} {p : Pos} {C : Addr} {es : List Expr} {cs : List Addr} : X.mg x = some (.ref C) → Gl X x → (x == ("__debug__" : Str)) = false → Nms X es cs → Nms X (.Name x p :: es) (C :: cs)
def tVs (vs : List V) : TA := fun _ H Q => Q vs H
theorem pa_nms {X : Cx} {es : List Expr} {cs : List Addr} (h : Nms X es cs) : PA X es (tVs (cs.map V.ref)) := by
  induction h with
  | nil => exact pa_nil
  | cons hm hg hd _ ih => exact (pa_cons (pe_glob hg hm (v := .ref _) rfl hd) ih rfl).imp fun _ _ _ z => z
structure IsiTW (K : PySem.W.Frag) (mg : Str → Option Value) (Cs : List Addr) (f : Str → Option Bool) : Prop where
  h : ∀ c b, f c = some b → ∃ C, mg c = some (.ref C) ∧ PySem.W.excIn K C bmVE newVE = true ∧ ExcNm K C ∧ PySem.W.kitAny K (.ref C) (Cs.map Value.ref) = some b
theorem vals_refs : ∀ {Cs : List Addr} {us : List Value}, Vals (Cs.map V.ref) us → us = Cs.map Value.ref
  | [], us, r => by cases r; rfl
  | C :: Cs, us, r => by
    cases r with
    | cons a t => rw [vals_refs t, show _ = Value.ref C from a]; rfl
theorem call_isiT {X : Cx} {Cs : List Addr} {f : Str → Option Bool} (hI : IsiTW X.K X.mg Cs f) :
    CallR X (.builtin "isinstance") (fun xs H Q => ∃ x tp μ st n c b, xs = [x, .ref tp] ∧ StR X.K X.mg μ st H ∧ RelW X.K μ H (.loc n) x ∧ st[n]? = some (.exc c) ∧ f c = some b ∧ SqT X.K H tp (Cs.map V.ref) ∧ Q (.bl b) H) := by
  intro pins s σ H xs us Q I r h
  obtain ⟨x, tp, μ, st, n, c, b, rfl, S, rx, hn, hf, hS, q⟩ := h
  obtain ⟨u, u2, rfl, r1, r2⟩ := Vals.two r
  cases (show u2 = Value.ref tp from r2)
  obtain ⟨C, hm, hq, hnm, hk⟩ := hI.h c b hf
  obtain ⟨a, ha, C', hm', hH⟩ := S.get hn
  obtain ⟨a', ha', rfl⟩ := rx.locE
  rw [ha] at ha'; cases ha'
  rw [hm] at hm'; cases hm'
  cases (show u = Value.ref a from r1)
  obtain ⟨⟨o, vs, h1, h2, h3⟩, _⟩ := I.hok a _ hH
  obtain ⟨its, rt, ⟨ot, e2, hc, n2, hd⟩, z2⟩ := I.tuple hS
  have hits := vals_refs rt
  subst hits
  obtain ⟨cls, dd, data, sl⟩ := ot
  dsimp only at hc hd
  subst hc hd
  exact PySem.W.kia_tup (kitx_exc hq hnm) I.kIn ⟨o, h1, h2⟩ e2 hk (fun z => nomatch z) fun tk => ⟨.bl _, H, I.tok tk, rfl, q⟩
section
variable {X : Cx} {a : Expr} {pos p p2 : Pos} {fa : FE} {es : List Expr} {k : Nat}
theorem s_isTp {Cs : List Addr} {f : Str → Option Bool} (hm : X.mg "isinstance" = none) (hT : Nms X es Cs) (hI : IsiTW X.K X.mg Cs f) (hz : Cs.length ≤ sizeLine) (ha : SE X a fa) (hg : Gl X "isinstance" := by rfl)
    (he : starEach [a, .Tuple es k p2] X.env = (false, eval a X.env) :: starEach [.Tuple es k p2] X.env := by rfl) (he2 : starEach [.Tuple es k p2] X.env = (false, eval (.Tuple es k p2) X.env) :: starEach [] X.env := by rfl) (hpl : (backTo pos (starEach [.Tuple es k p2] X.env)).any (·.1) = false := by rfl) :
    SE X (.Call (.Name "isinstance" p) [a, .Tuple es k p2] [] pos) (eIsE f fa) := ⟨(pe_callB (call_isiT hI) hg hm boot_isinstance (pa_cons ha.h (pa_cons (pe_tupF (pa_nms hT)) pa_nil he2) he) (by decide) (by decide) he hpl).imp fun σ H Q h => by
  obtain ⟨μ, ρ, st, l, h⟩ := h
  refine ⟨μ, ρ, st, l, RK.bind h l fun μ1 st1 x v H1 p1 x1 l1 q1 h1 => ?_⟩
  split at h1
  · rename_i n
    split at h1
    · rename_i c e1
      split at h1
      · rename_i b e2
        refine ⟨by rw [List.length_map]; exact hz, fun tp H2 hp e => ?_⟩
        subst e
        have xx : Ext X.K H1 (upd H1 tp (.tup (Cs.map V.ref))) := SqT.same (same_new hp _)
        exact ⟨v, tp, μ1, st1, n, c, b, rfl, l1.sto.same (same_new hp _), q1.mono (List.prefix_refl _) xx, e1, e2, SqT.new, h1 μ1 _ _ (List.prefix_refl _) xx (l1.sto.same (same_new hp _)) .bl⟩
      · exact h1.elim
    · exact h1.elim
  · exact h1.elim⟩
end
end L2
set_option Elab.async false
set_option linter.all false
set_option maxRecDepth 100000
set_option maxHeartbeats 4000000
namespace L2
open PySem PySem.Spec PyProof.Rows
section
variable {X : Cx}
theorem era_list {α : Type} (xs : List α) (k : Nat) : (xs.toArray.eraseIdxIfInBounds k).toList = xs.take k ++ xs.drop (k + 1) := by
  simp [List.eraseIdx_eq_take_drop_succ]
def rPopI : V → List V → Hp → VK → Prop := fun x vs H Q => ∃ (l : Addr) (xs : List V) (k : Nat) (y : V), x = .ref l ∧ vs = [.int k] ∧ H l = some (.lst xs) ∧ xs[k]? = some y ∧ k < 1000000 ∧ Q y (upd H l (.lst (xs.take k ++ xs.drop (k + 1))))
theorem mt_popI : MtM X "list.pop" rPopI := by
  intro pins s σ H x vs v us Q I rx rv h
  obtain ⟨l, xs, k, y, rfl, rfl, hH, hk, hk2, q⟩ := h
  cases rx
  obtain ⟨u, rfl, r1⟩ := Vals.one rv
  obtain ⟨t, rfl⟩ := r1
  obtain ⟨z, its, n, r, hl, e⟩ := I.lstM hH
  have hfit : Builtin.List.listFitsIndex (k : Int) = true := by
    unfold Builtin.List.listFitsIndex
    simp; omega
  obtain ⟨u1, f1, v1⟩ := r.get hk
  have hlt : k < its.length := (List.getElem?_eq_some_iff.mp f1).1
  have hsz : its.toArray.size ≤ sizeLine := by rw [List.size_toArray]; omega
  have hix : seqIndex? (k : Int) its.toArray.size = some k := by
    unfold seqIndex?
    simp; omega
  have hy' : its.toArray[k]? = some u1 := by simpa using f1
  obtain ⟨q0, hq0⟩ : ∃ q0 : Int, q0 = k := ⟨_, rfl⟩
  rw [← hq0] at hfit hix ⊢
  have M := PySem.MeetsSeq.list_pop_at l its.toArray n q0 t k u1 hfit hix hy' hsz
  refine call_meets F.slot_list_pop ⟨_, e, rfl⟩ F.entry_list_pop (F.args_list_pop_2 _ _) M ⟨e, ?_⟩
  refine ⟨y, _, I.lset (its' := its.take k ++ its.drop (k + 1)) hH e ?_ ((r.take k).append (r.drop (k + 1))) ?_, v1, q⟩
  · apply Array.toList_inj.mp
    rw [era_list]
  · rw [List.length_append, List.length_take, List.length_drop]
    omega
def mPopI (x : W) (ws : List W) (st : List Cell) : R W := match x, ws with
  | .loc n, [.int k] => (match st[n]? with
    | some (.lst zs) => if 0 ≤ k ∧ k < 1000000 then ofO zs[k.toNat]? fun w => .ok w (st.set n (.lst (zs.take k.toNat ++ zs.drop (k.toNat + 1)))) else .bad
    | _ => .bad)
  | _, _ => .bad
theorem m_popIW : MtW X "list.pop" mPopI := ⟨fun pins s σ H x vs v us Q I rv rus ⟨μ, st, wx, ws, S, rx, rs, q⟩ => by
  unfold mPopI at q
  split at q
  · rename_i n k
    obtain ⟨y1, rfl, ry1⟩ := rs.one
    split at q
    · rename_i zs e1
      split at q
      · rename_i cc
        obtain ⟨c1, c4⟩ := cc
        obtain ⟨k, rfl⟩ := Int.eq_ofNat_of_zero_le c1
        rw [Int.toNat_natCast] at q
        obtain ⟨a1, g1, vs1, k1, r1⟩ := S.get e1
        obtain ⟨b1, f1, rfl⟩ := rx.locE
        rw [g1] at f1; cases f1
        cases hl : zs[k]? with
        | none => rw [hl] at q; exact q.elim
        | some w =>
          rw [hl] at q
          obtain ⟨y, hy, ry⟩ := r1.get hl
          refine mt_popI pins s σ H _ _ v us Q I rv rus ⟨a1, vs1, k, y, rfl, by rw [ry1.intE], k1, hy, by omega, ?_⟩
          have xx : Ext X.K H (upd H a1 (.lst (vs1.take k ++ vs1.drop (k + 1)))) := SqT.but but_upd k1
          exact q μ _ _ (List.prefix_refl _) xx (S.set e1 g1 k1 ((r1.take k).app (r1.drop (k + 1)))) (ry.mono (List.prefix_refl _) xx)
      · exact q.elim
    · exact q.elim
  · exact q.elim, fun x ws st => by
  unfold mPopI ofO
  repeat' split
  all_goals trivial⟩
end
end L2
set_option Elab.async false
set_option linter.all false
set_option maxRecDepth 100000
set_option maxHeartbeats 4000000
namespace L2
open PySem PySem.Spec PyProof.Rows
section
variable {X : Cx}
theorem foldl_repN {α : Type} (l : List α) : ∀ (k : Nat) (acc : List α), List.foldl (fun x1 x2 => x1 ++ x2) acc.toArray (List.replicate k l.toArray) = (acc ++ (List.replicate k l).flatten).toArray
  | 0, acc => by simp
  | k + 1, acc => by
    have e : acc.toArray ++ l.toArray = (acc ++ l).toArray := by simp
    rw [List.replicate_succ, List.foldl_cons, e, foldl_repN l k (acc ++ l), List.replicate_succ, List.flatten_cons, List.append_assoc]
theorem tx_mul (l : List Nat) (n : Int) : Txt.mul (tx l) n = tx (List.replicate n.toNat l).flatten := by
  unfold Txt.mul
  by_cases h : n < 1
  · rw [if_pos h, show n.toNat = 0 by omega]; rfl
  · rw [if_neg h]
    split
    · rename_i hc
      rw [Bool.or_eq_true, beq_iff_eq, beq_iff_eq, tx_len] at hc
      rcases hc with rfl | hc
      · simp
      · have : l = [] := List.length_eq_zero_iff.mp hc
        subst this
        simp
    · have := foldl_repN l n.toNat []
      rw [List.nil_append] at this
      show Str.mk _ = Str.mk _
      congr 1
theorem op_mulS : OpR X (binaryOp .Mult) (fun x y H Q => ∃ (l : List Nat) (k : Int), x = .str (tx l) ∧ y = .int k ∧ -(2 ^ 62) ≤ k ∧ k < 2 ^ 62 ∧ l.length * k.toNat ≤ 1000000 ∧ Q (.str (tx (List.replicate k.toNat l).flatten)) H) := by
  intro pins s σ H x y v u Q I rx ry h
  obtain ⟨l, k, rfl, rfl, h1, h2, h3, q⟩ := h
  obtain ⟨t, rfl⟩ := rx
  obtain ⟨t', rfl⟩ := ry
  refine SB.mul ⟨?_, ?_, ?_⟩ fun t2 tk => ⟨.str _, H, I.tok _, ⟨t2, ?_⟩, q⟩
  · simp; omega
  · intro hk hx
    rw [tx_len]
    intro hg
    have hk1 : 1 ≤ k := by omega
    have : k * ((2 ^ 63 - 1) / k) ≤ 2 ^ 63 - 1 := Int.mul_ediv_self_le (by omega)
    have h4 : (2 ^ 63 - 1) < k * (l.length : Int) := by
      have := Int.lt_mul_of_ediv_lt (a := 2 ^ 63 - 1) (b := (l.length : Int)) (c := k) (by omega) hg
      rw [Int.mul_comm]; exact this
    have h5 : k * (l.length : Int) = ((l.length * k.toNat : Nat) : Int) := by
      rw [Int.natCast_mul, Int.toNat_of_nonneg (by omega), Int.mul_comm]
    rw [h5] at h4
    omega
  · intro hk hx
    rw [tx_len]
    unfold Builtin.Str.tooLong
    rw [decide_eq_false]
    have : (1000000 : Nat) ≤ sizeLine := by decide
    omega
  · rw [tx_mul]
def wMulA : W → W → List Cell → R W
  | .int i, .int j, st => if cMul i j then .ok (.int (i * j)) st else .bad
  | .str l, .int k, st => if -(2 ^ 62) ≤ k ∧ k < 2 ^ 62 ∧ l.length * k.toNat ≤ LIM then .ok (.str (List.replicate k.toNat l).flatten) st else .bad
  | _, _, _ => .bad
theorem w_mulA : OpW X (binaryOp .Mult) wMulA := ⟨fun pins s σ H x y v u Q I rv ru ⟨μ, st, wx, wy, S, rx, ry, q⟩ => by
  cases wx with
  | int i =>
    cases wy with
    | int j =>
      have q' : OkW X μ H Q (wMul (.int i) (.int j) st) := q
      exact w_mul.h pins s σ H x y v u Q I rv ru ⟨μ, st, .int i, .int j, S, rx, ry, q'⟩
    | _ => exact q.elim
  | str l =>
    cases wy with
    | int k =>
      simp only [wMulA] at q
      split at q
      · rename_i cc
        exact op_mulS pins s σ H x y v u Q I rv ru ⟨l, k, rx.strE, ry.intE, cc.1, cc.2.1, cc.2.2, okW_str S q⟩
      · exact q.elim
    | _ => exact q.elim
  | _ => cases wy <;> exact q.elim, fun x y st => by
  unfold wMulA
  repeat' split
  all_goals trivial⟩
end
end L2
set_option Elab.async false
set_option linter.all false
set_option maxRecDepth 100000
set_option maxHeartbeats 4000000
namespace L2
open PySem PySem.Spec PyProof.Rows
structure RoomH (k : Nat) (A : Around) : Prop where
  dp : A.depth + 2 * k + 5 < recursionLimit
  un : A.units + 16 * k + 200 < cLine
theorem Room.h {k : Nat} {A : Around} (r : Room k A) (v : Option Value) : RoomH k (A.mark v) := ⟨r.dp, r.un⟩
theorem RoomH.mono {j k : Nat} {A : Around} (r : RoomH k A) (h : j ≤ k) : RoomH j A := ⟨by have := r.dp; omega, by have := r.un; omega⟩
theorem RoomH.units {k : Nat} {A : Around} (r : RoomH k A) : A.units + 64 < cLine := by have := r.un; omega
structure FnOkH (P : Program) (w : World) (K : PySem.W.Frag) (mg : Str → Option Value) (base : Heap) (CX : CXT) (k : Nat) (f : Addr) (fd : FuncData) (ps : List Str) (sp : Sp) : Prop where
  len : ∀ vs H Q E, sp vs H Q E → vs.length = ps.length
  run : ∀ (A : Around) (outer : List Env) (s : Shared) (H : Hp) (args : Args) (us : List Value) (vs : List V) (Q : VK) (E : XK), RoomH k A → Env0 P w K mg base A outer s H → BindsTo s fd args (ps.zip us) → Vals vs us → sp vs H Q E →
    codeAny (model P w) A (.call (.ref f) args) (CR CX outer P w H s Q E) s
theorem FnOkH.mono {P : Program} {w : World} {K : PySem.W.Frag} {mg : Str → Option Value} {base : Heap} {CX : CXT} {j k : Nat} {f : Addr} {fd : FuncData} {ps : List Str} {sp : Sp} (F : FnOkH P w K mg base CX j f fd ps sp) (h : j ≤ k) :
    FnOkH P w K mg base CX k f fd ps sp := ⟨F.len, fun A outer s H args us vs Q E hr => F.run A outer s H args us vs Q E (hr.mono h)⟩
structure HasH (P : Program) (w : World) (K : PySem.W.Frag) (mg : Str → Option Value) (base : Heap) (k : Nat) (x : Str) (n : Nat) (F : List W → List Cell → R W) : Prop where
  ex : ∃ (f : Addr) (fd : FuncData) (ps : List Str), mg x = some (.ref f) ∧ PySem.W.keepIn K (.ref f) = true ∧ ps.length = n ∧ Binds K fd ps [] ∧ FnOkH P w K mg base (CX1 P w) k f fd ps (spW K mg n F)
theorem HasH.mono {P : Program} {w : World} {K : PySem.W.Frag} {mg : Str → Option Value} {base : Heap} {j k : Nat} {x : Str} {n : Nat} {F : List W → List Cell → R W} (h : HasH P w K mg base j x n F) (hj : j ≤ k) : HasH P w K mg base k x n F := by
  obtain ⟨f, fd, ps, a, b, c, d, e⟩ := h.ex
  exact ⟨f, fd, ps, a, b, c, d, e.mono hj⟩
section
variable {X : Cx}
variable {e : Expr} {es : List Expr} {pos p : Pos} {x : Str} {fs : FA}
end
end L2

set_option Elab.async false
set_option linter.all false
set_option maxRecDepth 100000
set_option maxHeartbeats 4000000
namespace L2
open PySem PySem.Spec PyProof.Rows
theorem cell_at (st x : List Cell) (k : Nat) : (st ++ x)[st.length + k]? = x[k]? := by rw [List.getElem?_append_right (by omega)]; congr 1; omega
theorem cell_at0 (st x : List Cell) : (st ++ x)[st.length]? = x[0]? := cell_at st x 0
theorem cell_set (st x : List Cell) (k : Nat) (c : Cell) : (st ++ x).set (st.length + k) c = st ++ x.set k c := by rw [List.set_append_right _ _ (by omega)]; congr 2; omega
theorem cell_set0 (st x : List Cell) (c : Cell) : (st ++ x).set st.length c = st ++ x.set 0 c := cell_set st x 0 c
theorem cell_old {st x : List Cell} {n : Nat} {c : Cell} (h : st[n]? = some c) : (st ++ x)[n]? = some c := by
  rw [List.getElem?_append_left (List.getElem?_eq_some_iff.mp h).1]; exact h
theorem trunc_self (st : List Cell) (ws : List W) : trunc st st ws = st := by unfold trunc; split <;> simp
theorem trunc_app {st x : List Cell} {ws : List W} (h : undWs st.length ws = true) : trunc st (st ++ x) ws = st := by
  unfold trunc
  rw [if_pos ⟨h, by simp, fun i hi => .inl (List.getElem?_append_left hi)⟩]
  simp
theorem trunc_new {st st' : List Cell} {ws : List W} (h : undWs st.length ws = false) : trunc st st' ws = st' := by
  unfold trunc
  rw [if_neg fun k => by have := k.1; rw [h] at this; cases this]
theorem runF_rt {N : Nat} {body : FS} {ws : List W} {st st' : List Cell} {w : W} (h : body (ws.map some ++ List.replicate (N - ws.length) none) st = .rt w st') : runF N body ws st = .ok w (trunc st st' [w]) := by
  unfold runF; rw [h]
theorem runF_self {N : Nat} {body : FS} {ws : List W} {st : List Cell} {w : W} (h : body (ws.map some ++ List.replicate (N - ws.length) none) st = .rt w st) : runF N body ws st = .ok w st := by
  rw [runF_rt h, trunc_self]
theorem runF_app {N : Nat} {body : FS} {ws : List W} {st x : List Cell} {w : W} (h : body (ws.map some ++ List.replicate (N - ws.length) none) st = .rt w (st ++ x)) (hu : undWs st.length [w] = true) : runF N body ws st = .ok w st := by
  rw [runF_rt h, trunc_app hu]
theorem runF_new {N : Nat} {body : FS} {ws : List W} {st x : List Cell} {k : Nat} (h : body (ws.map some ++ List.replicate (N - ws.length) none) st = .rt (.loc (st.length + k)) (st ++ x)) : runF N body ws st = .ok (.loc (st.length + k)) (st ++ x) := by
  rw [runF_rt h, trunc_new (by simp [undWs, W.und])]
theorem seq_nx {g g' : FS} {ρ ρ' : EnvW} {st st' : List Cell} (h : g ρ st = .nx ρ' st') : xSeq g g' ρ st = g' ρ' st' := by unfold xSeq; rw [h]
theorem xFor_nx {fi : FI} {f : FG} {body : FS} {ρ : EnvW} {st st' : List Cell} {k : Walk} (h : fi ρ st = .ok k st') : xFor fi f body ρ st = forW f body k.2 k.1 ρ st' := by unfold xFor; rw [h]; rfl
theorem forW_inv {f : FG} {body : FS} {ck : Option (Nat × List W)} (I : Nat → EnvW → List Cell → Prop) : ∀ {ws : List W} {ρ : EnvW} {st : List Cell} (i0 : Nat), I i0 ρ st → (∀ i ρ st, I i ρ st → chkOk st ck) →
    (∀ i w ρ st, ws[i]? = some w → I (i0 + i) ρ st → ∃ ρ' ρ2 st2, f w ρ = some ρ' ∧ body ρ' st = .nx ρ2 st2 ∧ I (i0 + i + 1) ρ2 st2) →
    ∃ ρ2 st2, forW f body ck ws ρ st = .nx ρ2 st2 ∧ I (i0 + ws.length) ρ2 st2
  | [], ρ, st, i0, h0, hc, hs => ⟨ρ, st, by unfold forW; rw [if_pos (hc _ _ _ h0)], h0⟩
  | w :: ws, ρ, st, i0, h0, hc, hs => by
    obtain ⟨ρ', ρ2, st2, e1, e2, h1⟩ := hs 0 w ρ st rfl h0
    obtain ⟨ρ3, st3, e3, h3⟩ := forW_inv I (ws := ws) (ρ := ρ2) (st := st2) (i0 + 1) h1 hc fun i w ρ st hw hI => by
      obtain ⟨a, b, c, d, e, g⟩ := hs (i + 1) w ρ st (by simpa using hw) (by rw [show i0 + (i + 1) = i0 + 1 + i by omega]; exact hI)
      exact ⟨a, b, c, d, e, by rw [show i0 + 1 + i + 1 = i0 + (i + 1) + 1 by omega]; exact g⟩
    refine ⟨ρ3, st3, ?_, by rw [List.length_cons, show i0 + (ws.length + 1) = i0 + 1 + ws.length by omega]; exact h3⟩
    unfold forW
    rw [if_pos (hc _ _ _ h0), e1]
    simp only [e2]
    exact e3
theorem while_inv {t : FT} {g : FS} (I : Nat → EnvW → List Cell → Prop) : ∀ (n : Nat) {ρ : EnvW} {st : List Cell}, I n ρ st →
    (∀ n ρ st, I n ρ st → t ρ st = .ok false st ∨ (t ρ st = .ok true st ∧ ∃ ρ2 st2 m, g ρ st = .nx ρ2 st2 ∧ m < n ∧ I m ρ2 st2)) →
    ∃ m ρ2 st2, xWhile t g ρ st = .nx ρ2 st2 ∧ I m ρ2 st2 ∧ t ρ2 st2 = .ok false st2 := by
  intro n ρ st h hs
  have key : ∀ (k n : Nat) (ρ : EnvW) (st : List Cell), n < k → I n ρ st → ∃ m ρ2 st2, whileW t g k ρ st = .nx ρ2 st2 ∧ I m ρ2 st2 ∧ t ρ2 st2 = .ok false st2 := by
    intro k
    induction k with
    | zero => intro n _ _ h; exact absurd h (Nat.not_lt_zero _)
    | succ k ih =>
      intro n ρ st hk hI
      rcases hs n ρ st hI with e | ⟨e, ρ2, st2, m, e2, hm, h2⟩
      · exact ⟨n, ρ, st, by unfold whileW; rw [e]; rfl, hI, e⟩
      · obtain ⟨m', ρ3, st3, e3, h3⟩ := ih m ρ2 st2 (by omega) h2
        exact ⟨m', ρ3, st3, by unfold whileW; rw [e]; simp only [R.stmt_ok, if_true, e2]; exact e3, h3⟩
  obtain ⟨m, ρ2, st2, e, h2⟩ := key (n + 1) n ρ st (Nat.lt_succ_self n) h
  exact ⟨m, ρ2, st2, xWhile_eq e (by simp), h2⟩
def isS (l : List Nat) : W → Bool
  | .str m => m == l
  | _ => false
/-- a text or a tuple -/
def Gd : W → Prop
  | .str l => l.length ≤ LIM
  | .tup ws => True
  | _ => False
theorem eq_S {x : W} (h : Gd x) (l : List Nat) (st : List Cell) : wEq x (.str l) st = .ok (.bl (isS l x)) st := by
  cases x with
  | str m => simp [wEq, eqW, W.dep, isS]
  | tup ws => simp [wEq, eqW, isS, W.dep]
  | _ => exact h.elim
theorem ne_S {x : W} (h : Gd x) (l : List Nat) (st : List Cell) : wNe x (.str l) st = .ok (.bl (!isS l x)) st := by
  cases x with
  | str m => simp [wNe, eqW, W.dep, isS]
  | tup ws => simp [wNe, eqW, isS, W.dep]
  | _ => exact h.elim
def inS (ls : List (List Nat)) (x : W) : Bool := ls.any fun l => isS l x
theorem any_S {x : W} (h : Gd x) : ∀ ls : List (List Nat), anyW x (ls.map W.str) = some (inS ls x)
  | [] => rfl
  | l :: ls => by
    simp only [List.map, anyW, any_S h ls, inS, List.any_cons]
    cases x with
    | str m =>
      have e : (l == m) = (m == l) := by rw [Bool.eq_iff_iff, beq_iff_eq, beq_iff_eq]; exact eq_comm
      simp only [eqW, isS, e]
    | tup ws => simp [eqW, isS]
    | _ => exact h.elim
theorem dep_S : ∀ ls : List (List Nat), depWs (ls.map W.str) = 0
  | [] => rfl
  | l :: ls => by simp only [List.map, depWs, W.dep, dep_S ls]; rfl
theorem in_S {x : W} (h : Gd x) (neg : Bool) (ls : List (List Nat)) (st : List Cell) : wIn neg x (.tup (ls.map W.str)) st = .ok (.bl (if neg then !inS ls x else inS ls x)) st := by
  simp [wIn, any_S h, dep_S]
section
variable {ρ ρ' : EnvW} {st st1 st2 st3 st4 : List Cell} {fa fb fe fo fi : FE} {fs : FA} {t u : FT} {x y z w v : W} {ws xs zs : List W} {i j n m : Nat} {a b k : Bool} {g g' : FS}
theorem k_var (h : ρ[i]? = some (some w)) : eVar i ρ st = .ok w st := by unfold eVar; rw [h]
theorem k_C : eC w ρ st = .ok w st := rfl
theorem k_2 {f : W → W → List Cell → R W} (h1 : fa ρ st = .ok x st1) (h2 : fb ρ st1 = .ok y st2) (h3 : f x y st2 = .ok z st3) : e2 f fa fb ρ st = .ok z st3 := by unfold e2; rw [h1]; simp only [R.bind_ok]; rw [h2]; exact h3
theorem k_nil : aNil ρ st = .ok [] st := rfl
theorem k_cons (h1 : fa ρ st = .ok x st1) (h2 : fs ρ st1 = .ok xs st2) : aCons fa fs ρ st = .ok (x :: xs) st2 := by unfold aCons; rw [h1]; simp only [R.bind_ok]; rw [h2]; rfl
theorem k_strs {ls : List (List Nat)} : wStrs ls ρ st = .ok (ls.map W.str) st := rfl
theorem k_tup (h1 : fs ρ st = .ok ws st1) (h2 : ws.length ≤ LIM) : eTup fs ρ st = .ok (.tup ws) st1 := by unfold eTup; rw [h1]; simp only [R.bind_ok, mkTup]; rw [if_pos h2]
theorem k_lst (h1 : fs ρ st = .ok ws st1) (h2 : ws.length ≤ LIM) : eLst fs ρ st = .ok (.loc st1.length) (st1 ++ [.lst ws]) := by unfold eLst; rw [h1]; simp only [R.bind_ok, mkLst]; rw [if_pos h2]
theorem k_call {F : List W → List Cell → R W} (h1 : fs ρ st = .ok ws st1) (h2 : F ws st1 = .ok w st2) : eCall F fs ρ st = .ok w st2 := by unfold eCall; rw [h1]; exact h2
theorem k_def {F : List W → List Cell → R W} (h1 : fs ρ st = .ok ws st1) (h2 : F ws st1 = .ok w st2) (hn : ws.length = n) : eDef n F fs ρ st = .ok w st2 := by unfold eDef; rw [h1]; simp only [R.bind_ok]; rw [if_pos hn]; exact h2
theorem k_asB (h : fa ρ st = .ok (.bl k) st1) : asB fa ρ st = .ok k st1 := by unfold asB; rw [h]; rfl
theorem k_bnd_t (h1 : t ρ st = .ok true st1) (h2 : u ρ st1 = .ok k st2) : bnd t u ρ st = .ok k st2 := by unfold bnd; rw [h1]; exact h2
theorem k_bnd_f (h1 : t ρ st = .ok false st1) : bnd t u ρ st = .ok false st1 := by unfold bnd; rw [h1]; rfl
theorem k_bor_f (h1 : t ρ st = .ok false st1) (h2 : u ρ st1 = .ok k st2) : bor t u ρ st = .ok k st2 := by unfold bor; rw [h1]; exact h2
theorem k_bor_t (h1 : t ρ st = .ok true st1) : bor t u ρ st = .ok true st1 := by unfold bor; rw [h1]; rfl
theorem k_bnt (h1 : t ρ st = .ok a st1) (h2 : (!a) = k) : bnt t ρ st = .ok k st1 := by unfold bnt; rw [h1, ← h2]; rfl
theorem k_and_t (h1 : fa ρ st = .ok (.bl true) st1) (h2 : fb ρ st1 = .ok w st2) : eAnd fa fb ρ st = .ok w st2 := by unfold eAnd; rw [h1]; exact h2
theorem k_and_f (h1 : fa ρ st = .ok (.bl false) st1) : eAnd fa fb ρ st = .ok (.bl false) st1 := by unfold eAnd; rw [h1]; rfl
theorem k_or_f (h1 : fa ρ st = .ok (.bl false) st1) (h2 : fb ρ st1 = .ok w st2) : eOr fa fb ρ st = .ok w st2 := by unfold eOr; rw [h1]; exact h2
theorem k_or_t (h1 : fa ρ st = .ok (.bl true) st1) : eOr fa fb ρ st = .ok (.bl true) st1 := by unfold eOr; rw [h1]; rfl
theorem k_not (h1 : fa ρ st = .ok (.bl a) st1) (h2 : (!a) = k) : eNot fa ρ st = .ok (.bl k) st1 := by unfold eNot; rw [h1, ← h2]; rfl
theorem k_if1 (h1 : t ρ st = .ok true st1) (h2 : fa ρ st1 = .ok w st2) : eIf t fa fb ρ st = .ok w st2 := by unfold eIf; rw [h1]; exact h2
theorem k_if2 (h1 : t ρ st = .ok false st1) (h2 : fb ρ st1 = .ok w st2) : eIf t fa fb ρ st = .ok w st2 := by unfold eIf; rw [h1]; exact h2
theorem k_ml {F : W → List W → List Cell → R W} (h1 : fo ρ st = .ok x st1) (hl : isLst st1 x = true) (h2 : fs ρ st1 = .ok ws st2) (h3 : F x ws st2 = .ok w st3) : eML F fo fs ρ st = .ok w st3 := by unfold eML; rw [h1]; simp only [R.bind_ok]; rw [if_pos hl, h2]; exact h3
theorem k_ms {F : W → List W → List Cell → R W} (h1 : fo ρ st = .ok x st1) (hl : isStr x = true) (h2 : fs ρ st1 = .ok ws st2) (h3 : F x ws st2 = .ok w st3) : eMS F fo fs ρ st = .ok w st3 := by unfold eMS; rw [h1]; simp only [R.bind_ok]; rw [if_pos hl, h2]; exact h3
theorem k_isLst (h : st[n]? = some (.lst ws)) : isLst st (.loc n) = true := by simp only [isLst, h]
theorem k_neg {q : Int} (h : fa ρ st = .ok (.int q) st1) : eNeg fa ρ st = .ok (.int (-q)) st1 := by unfold eNeg; rw [h]; rfl
theorem k_isT {T c : String} (h : fa ρ st = .ok x st1) (hx : x.ty = some c) (hk : isiT c T = k) : eIsT T fa ρ st = .ok (.bl k) st1 := by unfold eIsT; rw [h]; simp only [R.bind_ok, hx, hk]
theorem k_isN (h : fa ρ st = .ok x st1) (hk : x.isNon = k) : eIsN fa ρ st = .ok (.bl k) st1 := by unfold eIsN; rw [h, ← hk]; rfl
theorem k_notN (h : fa ρ st = .ok x st1) (hk : (!x.isNon) = k) : eNotN fa ρ st = .ok (.bl k) st1 := by unfold eNotN; rw [h, ← hk]; rfl
theorem k_oN : oNone ρ st = .ok none st := rfl
theorem k_oS {q : Int} (h : fa ρ st = .ok (.int q) st1) : oSome fa ρ st = .ok (some q) st1 := by unfold oSome; rw [h]; rfl
theorem k_sl {fl fh : FO} {l h : Option Int} (h1 : fa ρ st = .ok x st1) (h2 : fl ρ st1 = .ok l st2) (h3 : fh ρ st2 = .ok h st3) (h4 : wSl x l h st3 = .ok w st4) : eSl fa fl fh ρ st = .ok w st4 := by unfold eSl; rw [h1]; simp only [R.bind_ok]; rw [h2]; simp only [R.bind_ok]; rw [h3]; exact h4
theorem k_set (h : fe ρ st = .ok w st1) : xSet i fe ρ st = .nx (ρ.set i (some w)) st1 := by unfold xSet; rw [h]; rfl
theorem k_expr (h : fe ρ st = .ok w st1) : xExpr fe ρ st = .nx ρ st1 := by unfold xExpr; rw [h]; rfl
theorem k_ret (h : fe ρ st = .ok w st1) : xRet fe ρ st = .rt w st1 := by unfold xRet; rw [h]; rfl
theorem k_put {f : W → W → W → List Cell → Option (List Cell)} (h1 : fe ρ st = .ok v st1) (h2 : fo ρ st1 = .ok x st2) (h3 : fi ρ st2 = .ok y st3) (h4 : f x y v st3 = some st4) : xPut fo fi fe f ρ st = .nx ρ st4 := by
  unfold xPut; rw [h1]; simp only [R.stmt_ok]; rw [h2]; simp only [R.stmt_ok]; rw [h3]; simp only [R.stmt_ok]; rw [h4]
theorem k_if_t {r : RS} (h1 : t ρ st = .ok true st1) (h2 : g ρ st1 = r) : xIf t g g' ρ st = r := by unfold xIf; rw [h1]; exact h2
theorem k_if_f {r : RS} (h1 : t ρ st = .ok false st1) (h2 : g' ρ st1 = r) : xIf t g g' ρ st = r := by unfold xIf; rw [h1]; exact h2
theorem k_next : xNext ρ st = .nx ρ st := rfl
theorem k_seq {r : RS} (h : g ρ st = .nx ρ' st1) (h2 : g' ρ' st1 = r) : xSeq g g' ρ st = r := by rw [seq_nx h]; exact h2
theorem k_seqR (h : g ρ st = .rt w st1) : xSeq g g' ρ st = .rt w st1 := by unfold xSeq; rw [h]
theorem o_addI {p q : Int} : wAdd (.int p) (.int q) st = .ok (.int (p + q)) st := rfl
theorem o_addS {p q : List Nat} (h : p.length + q.length ≤ LIM) : wAdd (.str p) (.str q) st = .ok (.str (p ++ q)) st := by simp only [wAdd]; rw [if_pos h]
theorem o_addL (h1 : st[n]? = some (.lst ws)) (h2 : st[m]? = some (.lst xs)) (h : (ws ++ xs).length ≤ LIM) : wAdd (.loc n) (.loc m) st = .ok (.loc st.length) (st ++ [.lst (ws ++ xs)]) := by
  unfold wAdd; simp only [h1, h2, mkLst]; rw [if_pos h]
theorem o_II {C : Int → Int → Prop} [∀ i j, Decidable (C i j)] {f : Int → Int → Int} {p q : Int} (h : C p q) : wII C f (.int p) (.int q) st = .ok (.int (f p q)) st := by simp only [wII]; rw [if_pos h]
theorem o_mulI {p q : Int} (h : cMul p q) : wMulA (.int p) (.int q) st = .ok (.int (p * q)) st := by simp only [wMulA]; rw [if_pos h]
theorem o_mulS {l : List Nat} {q : Int} (h : -(2 ^ 62) ≤ q ∧ q < 2 ^ 62 ∧ l.length * q.toNat ≤ LIM) : wMulA (.str l) (.int q) st = .ok (.str (List.replicate q.toNat l).flatten) st := by simp only [wMulA]; rw [if_pos h]
theorem o_cmp {f : Int → Int → Bool} {p q : Int} (h : f p q = k) : wCmp f (.int p) (.int q) st = .ok (.bl k) st := by rw [← h]; rfl
theorem o_leI {p q : Int} (h : decide (p ≤ q) = k) : wLeD (.int p) (.int q) st = .ok (.bl k) st := by rw [← h]; rfl
theorem o_eqI {p q : Int} (h : (p == q) = k) : wEq (.int p) (.int q) st = .ok (.bl k) st := by rw [← h]; rfl
theorem o_neI {p q : Int} (h : (!(p == q)) = k) : wNe (.int p) (.int q) st = .ok (.bl k) st := by rw [← h]; rfl
theorem o_eqS {p q : List Nat} (h : (p == q) = k) : wEq (.str p) (.str q) st = .ok (.bl k) st := by rw [← h]; rfl
theorem o_ixT {q : Int} (h : atI ws q = some w) : wIx (.tup ws) (.int q) st = .ok w st := by unfold wIx; simp only [h, ofO_some]
theorem o_ixS {l : List Nat} {q : Int} {c : Nat} (hl : l.length ≤ LIM) (h : atI l q = some c) : wIx (.str l) (.int q) st = .ok (.str [c]) st := by unfold wIx; simp only [h, ofO_some]; rw [if_pos hl]
theorem o_ixL {q : Int} (hl : lstOf st n = some ws) (h : atI ws q = some w) : wIx (.loc n) (.int q) st = .ok w st := by unfold wIx; simp only [hl, h, ofO_some]
theorem o_lenT : bLen [.tup ws] st = .ok (.int ws.length) st := rfl
theorem o_lenS {l : List Nat} (h : l.length ≤ LIM) : bLen [.str l] st = .ok (.int l.length) st := by unfold bLen; simp only; rw [if_pos h]
theorem o_lenL (hl : lstOf st n = some ws) : bLen [.loc n] st = .ok (.int ws.length) st := by unfold bLen; simp only [hl, ofO_some]
theorem lstOf_l (h : st[n]? = some (.lst ws)) : lstOf st n = some ws := by unfold lstOf; rw [h]
theorem lstOf_r (h : st[n]? = some (.ro ws)) : lstOf st n = some ws := by unfold lstOf; rw [h]
theorem o_app (h : st[n]? = some (.lst ws)) (hl : ws.length < LIM) : mAppend (.loc n) [y] st = .ok .non (st.set n (.lst (ws ++ [y]))) := by unfold mAppend; simp only [h]; rw [if_pos hl]
theorem o_pop (h : st[n]? = some (.lst (ws ++ [y]))) : mPop (.loc n) [] st = .ok y (st.set n (.lst ws)) := by unfold mPop; simp only [h]; simp
theorem o_extT (h : st[n]? = some (.lst ws)) (hl : ws.length + xs.length ≤ LIM) : mExtendA (.loc n) [.tup xs] st = .ok .non (st.set n (.lst (ws ++ xs))) := by unfold mExtendA; simp only [h]; rw [if_pos hl]
theorem o_putL {q : Int} (h : st[n]? = some (.lst ws)) (hi : ixN ws.length q = some j) : wSetL (.loc n) (.int q) v st = some (st.set n (.lst (ws.set j v))) := by unfold wSetL; simp only [h, hi]; rfl
theorem o_split {l : List Nat} {c : Nat} (h : l.length + 2 ≤ LIM) : mSplit (.str l) [.str [c]] st = .ok (.loc st.length) (st ++ [.lst ((splitN c l).map W.str)]) := by unfold mSplit; simp only; rw [if_pos h]
theorem o_join {sep : List Nat} {ls : List (List Nat)} (h : lstOf st n = some (ls.map W.str)) (hl : (ls.map List.length).sum + ls.length * sep.length ≤ LIM) : mJoin (.str sep) [.loc n] st = .ok (.str (joinN sep ls)) st := by
  unfold mJoin; simp only [h, ofO_some, strs?_map]; rw [if_pos hl]
theorem o_slL {l h : Option Int} (hl : lstOf st n = some ws) : wSl (.loc n) l h st = .ok (.loc st.length) (st ++ [.lst (cutW ws l h)]) := by unfold wSl; simp only [hl, ofO_some]
theorem o_slS {l h : Option Int} {z : List Nat} (hl : z.length ≤ LIM) : wSl (.str z) l h st = .ok (.str (cutW z l h)) st := by unfold wSl; simp only; rw [if_pos hl]
theorem o_slT {l h : Option Int} : wSl (.tup ws) l h st = .ok (.tup (cutW ws l h)) st := rfl
theorem i_any_t (h : fe ρ st = .ok (.tup ws) st1) : itAny fe ρ st = .ok (ws, none) st1 := by unfold itAny; rw [h]; rfl
theorem i_any_l (h : fe ρ st = .ok (.loc n) st1) (hl : lstOf st1 n = some ws) : itAny fe ρ st = .ok (ws, some (n, ws)) st1 := by unfold itAny; rw [h]; simp only [R.bind_ok, hl]
theorem i_range1 {q : Int} (h : fs ρ st = .ok [.int q] st1) (hq : -(2 ^ 62) ≤ q ∧ q < 2 ^ 62) : itRange1 fs ρ st = .ok (rangeW 0 q.toNat, none) st1 := by unfold itRange1; rw [h]; simp only [R.bind_ok]; rw [if_pos hq]
theorem at_neg {l : List W} {q : Nat} {x : W} (h : l.reverse[q]? = some x) : atI l (-((q : Int) + 1)) = some x := by
  have hq : q < l.length := by have := (List.getElem?_eq_some_iff.mp h).1; simpa using this
  unfold atI ixN
  rw [if_neg (by omega), if_pos (by omega)]
  rw [List.getElem?_reverse hq] at h
  simp only [Option.bind_some]
  rw [show ((-((q : Int) + 1)) + (l.length : Int)).toNat = l.length - 1 - q by omega]
  exact h
theorem at_nat {α : Type} {l : List α} {q : Nat} {x : α} (h : l[q]? = some x) : atI l (q : Int) = some x := by
  have hq : q < l.length := (List.getElem?_eq_some_iff.mp h).1
  unfold atI ixN
  rw [if_pos (by omega), if_pos (by omega)]
  simpa using h
def Sat (P : RS → Prop) (r : RS) : Prop := P r
def nxP (I : EnvW → List Cell → Prop) : RS → Prop := fun r => ∃ ρ st, r = .nx ρ st ∧ I ρ st
def rtP (I : W → List Cell → Prop) : RS → Prop := fun r => ∃ w st, r = .rt w st ∧ I w st
variable {P : RS → Prop} {rest : FS}
theorem sat_eq {r r' : RS} (h : r = r') (h2 : P r') : Sat P r := by rw [h]; exact h2
theorem sat_seq (h : g ρ st = .nx ρ' st1) (h2 : Sat P (g' ρ' st1)) : Sat P (xSeq g g' ρ st) := by rw [seq_nx h]; exact h2
theorem sat_t (h1 : t ρ st = .ok true st1) (h2 : Sat P (g ρ st1)) : Sat P (xIf t g g' ρ st) := by rw [k_if_t h1 rfl]; exact h2
theorem sat_f (h1 : t ρ st = .ok false st1) (h2 : Sat P (g' ρ st1)) : Sat P (xIf t g g' ρ st) := by rw [k_if_f h1 rfl]; exact h2
theorem sat_seq_t (h1 : t ρ st = .ok true st1) (h2 : Sat P (xSeq g rest ρ st1)) : Sat P (xSeq (xIf t g g') rest ρ st) := by
  unfold xSeq at h2 ⊢; rw [k_if_t h1 rfl]; exact h2
theorem sat_seq_f (h1 : t ρ st = .ok false st1) (h2 : Sat P (xSeq g' rest ρ st1)) : Sat P (xSeq (xIf t g g') rest ρ st) := by
  unfold xSeq at h2 ⊢; rw [k_if_f h1 rfl]; exact h2
theorem sat_assoc {h : FS} (h2 : Sat P (xSeq g (xSeq g' h) ρ st)) : Sat P (xSeq (xSeq g g') h ρ st) := by
  unfold xSeq at h2 ⊢
  cases e : g ρ st <;> simp only [e] at h2 ⊢ <;> exact h2
theorem sat_next (h2 : Sat P (rest ρ st)) : Sat P (xSeq xNext rest ρ st) := h2
theorem sat_ret (h : fe ρ st = .ok w st1) (h2 : P (.rt w st1)) : Sat P (xRet fe ρ st) := by rw [k_ret h]; exact h2
theorem sat_seq_ret (h : fe ρ st = .ok w st1) (h2 : P (.rt w st1)) : Sat P (xSeq (xRet fe) rest ρ st) := by rw [k_seqR (k_ret h)]; exact h2
theorem sat_for {fi : FI} {f : FG} {body : FS} {k : Walk} (I : Nat → EnvW → List Cell → Prop) (h : fi ρ st = .ok k st1) (h0 : I 0 ρ st1) (hc : ∀ i ρ st, I i ρ st → chkOk st k.2)
    (hs : ∀ i w ρ st, k.1[i]? = some w → I i ρ st → ∃ ρ', f w ρ = some ρ' ∧ Sat (nxP (I (i + 1))) (body ρ' st)) (he : ∀ ρ st, I k.1.length ρ st → Sat P (rest ρ st)) : Sat P (xSeq (xFor fi f body) rest ρ st) := by
  obtain ⟨ρ2, st2, e, h2⟩ := forW_inv (f := f) (body := body) (ck := k.2) I (ws := k.1) (ρ := ρ) (st := st1) 0 h0 hc fun i w ρ st hw hI => by
    rw [Nat.zero_add] at hI ⊢
    obtain ⟨ρ', e1, ρ2, st2, e2, h2⟩ := hs i w ρ st hw hI
    exact ⟨ρ', ρ2, st2, e1, e2, h2⟩
  rw [Nat.zero_add] at h2
  exact sat_seq (by rw [xFor_nx h]; exact e) (he _ _ h2)
theorem sat_while {body : FS} (I : Nat → EnvW → List Cell → Prop) (n : Nat) (h0 : I n ρ st)
    (hs : ∀ n ρ st, I n ρ st → t ρ st = .ok false st ∨ (t ρ st = .ok true st ∧ Sat (nxP fun ρ2 st2 => ∃ m, m < n ∧ I m ρ2 st2) (body ρ st))) (he : ∀ m ρ st, I m ρ st → t ρ st = .ok false st → Sat P (rest ρ st)) : Sat P (xSeq (xWhile t body) rest ρ st) := by
  obtain ⟨m, ρ2, st2, e, h2, h3⟩ := while_inv (t := t) (g := body) I n h0 fun n ρ st hI => by
    rcases hs n ρ st hI with e | ⟨e, ρ2, st2, e2, m, hm, h2⟩
    · exact .inl e
    · exact .inr ⟨e, ρ2, st2, m, e2, hm, h2⟩
  exact sat_seq e (he _ _ _ h2 h3)
theorem sat_while' {body : FS} (I : Nat → EnvW → List Cell → Prop) (n : Nat) (h0 : I n ρ st)
    (hs : ∀ n ρ st, I n ρ st → t ρ st = .ok false st ∨ (t ρ st = .ok true st ∧ Sat (nxP fun ρ2 st2 => ∃ m, m < n ∧ I m ρ2 st2) (body ρ st))) (he : ∀ m ρ st, I m ρ st → t ρ st = .ok false st → P (.nx ρ st)) : Sat P (xWhile t body ρ st) := by
  obtain ⟨m, ρ2, st2, e, h2, h3⟩ := while_inv (t := t) (g := body) I n h0 fun n ρ st hI => by
    rcases hs n ρ st hI with e | ⟨e, ρ2, st2, e2, m, hm, h2⟩
    · exact .inl e
    · exact .inr ⟨e, ρ2, st2, m, e2, hm, h2⟩
  rw [e]; exact he _ _ _ h2 h3
/-- a def that tells a plain value -/
theorem run_val {N : Nat} {body : FS} {Q : W → Prop} (h : Sat (rtP fun w st' => (∃ x, st' = st ++ x) ∧ undWs st.length [w] = true ∧ Q w) (body (ws.map some ++ List.replicate (N - ws.length) none) st)) : ∃ w, Q w ∧ runF N body ws st = .ok w st := by
  obtain ⟨w, st', e, ⟨x, rfl⟩, hu, q⟩ := h
  exact ⟨w, q, runF_app e hu⟩
theorem run_is {N : Nat} {body : FS} (h : Sat (rtP fun w' st' => w' = w ∧ ∃ x, st' = st ++ x) (body (ws.map some ++ List.replicate (N - ws.length) none) st)) (hu : undWs st.length [w] = true) : runF N body ws st = .ok w st := by
  obtain ⟨w, st', e, rfl, x, rfl⟩ := h
  exact runF_app e hu
/-- a def that tells a list of its own -/
theorem run_new {N : Nat} {body : FS} {Q : Nat → List Cell → Prop} (h : Sat (rtP fun w st' => ∃ j x, w = .loc (st.length + j) ∧ st' = st ++ x ∧ Q j x) (body (ws.map some ++ List.replicate (N - ws.length) none) st)) : ∃ j x, Q j x ∧ runF N body ws st = .ok (.loc (st.length + j)) (st ++ x) := by
  obtain ⟨w, st', e, j, x, rfl, rfl, q⟩ := h
  exact ⟨j, x, q, runF_new e⟩
theorem rangeW_at {q i : Nat} {lo : Int} {w : W} (h : (rangeW lo q)[i]? = some w) : i < q ∧ w = .int (lo + i) := by
  unfold rangeW at h
  obtain ⟨h1, h2⟩ := List.getElem?_eq_some_iff.mp h
  simp only [List.length_map, List.length_range] at h1
  exact ⟨h1, by rw [← h2]; simp⟩
theorem cut_pre {α : Type} {l : List α} {q : Nat} (h : q ≤ l.length) : cutW l none (some (q : Int)) = l.take q := by
  unfold cutW; rw [HT.sIx_none, HT.sIx_nat, Nat.min_eq_left h]; simp
theorem cut_suf {α : Type} {l : List α} {q : Nat} (h : q ≤ l.length) : cutW l (some (q : Int)) none = l.drop q := by
  unfold cutW; rw [HT.sIx_none, HT.sIx_nat, Nat.min_eq_left h]; rw [List.take_of_length_le (by simp)]
theorem mod_nat {q : Int} {n : Nat} (h : 0 < n) : ∃ m : Nat, m < n ∧ q % (n : Int) = m := by
  have h0 : 0 ≤ q % (n : Int) := Int.emod_nonneg _ (by omega)
  have h1 : q % (n : Int) < n := Int.emod_lt_of_pos _ (by omega)
  exact ⟨(q % (n : Int)).toNat, by omega, by omega⟩
end
section
variable {ρ : EnvW} {st st1 : List Cell} {t u : FT} {a b k : Bool} {P : RS → Prop} {g g' rest : FS} {w : W} {ws : List W}
theorem k_bnd2 (h1 : t ρ st = .ok a st) (h2 : u ρ st = .ok b st) : bnd t u ρ st = .ok (a && b) st := by cases a; exact k_bnd_f h1; exact k_bnd_t h1 h2
theorem k_bor2 (h1 : t ρ st = .ok a st) (h2 : u ρ st = .ok b st) : bor t u ρ st = .ok (a || b) st := by cases a; exact k_bor_f h1 h2; exact k_bor_t h1
theorem k_bnt2 (h1 : t ρ st = .ok a st) : bnt t ρ st = .ok (!a) st := k_bnt h1 rfl
theorem sat_seq_b (h : t ρ st = .ok k st1) (h1 : k = true → Sat P (xSeq g rest ρ st1)) (h2 : k = false → Sat P (xSeq g' rest ρ st1)) : Sat P (xSeq (xIf t g g') rest ρ st) := by
  cases k; exact sat_seq_f h (h2 rfl); exact sat_seq_t h (h1 rfl)
theorem run_self' {N : Nat} {body : FS} (h : Sat (rtP fun w' st' => w' = w ∧ st' = st) (body (ws.map some ++ List.replicate (N - ws.length) none) st)) : runF N body ws st = .ok w st := by
  obtain ⟨w, st', e, rfl, rfl⟩ := h
  exact runF_self e
end
end L2
open L2
local macro_rules | `(tactic| walk_at "ev1") => `(tactic| first
  | (with_reducible apply k_var) <;> rfl
  | (with_reducible apply o_ixT) <;> rfl
  | with_reducible first
    | exact k_C | exact k_nil | exact k_strs | exact k_oN | exact o_addI | exact o_lenT | exact k_next | exact o_slT
    | apply k_2 | apply k_cons | apply k_tup | apply k_lst | apply k_call | apply k_def | apply k_asB | apply k_bnt | apply k_not
    | apply k_ml | apply k_ms | apply k_neg | apply k_isT | apply k_isN | apply k_notN | apply k_oS | apply k_sl | apply k_set | apply k_expr | apply k_ret | apply k_put
    | apply o_II | apply o_mulI | apply o_cmp | apply o_leI | apply o_eqI | apply o_neI | apply o_eqS | apply o_addS
  | decide
  | (show List.length _ ≤ LIM; exact Nat.le_of_ble_eq_true rfl)
  | (show @Eq Nat _ _; exact rfl)
  | (show @Eq Bool _ _; exact rfl)
  | (show @Eq (Option String) _ _; exact rfl)
  | (show @Eq _ _ _; with_reducible assumption))
local macro_rules | `(tactic| walk_at "evs") => `(tactic| repeat' walk_at "ev1")
local macro_rules | `(tactic| walk_at "tst") => `(tactic| first
  | (walk_at "evs"; done)
  | (apply k_bnd_f; (focus walk_at "tst"); done)
  | (apply k_bnd_t; (focus walk_at "tst"); (focus walk_at "tst"); done)
  | (apply k_bor_t; (focus walk_at "tst"); done)
  | (apply k_bor_f; (focus walk_at "tst"); (focus walk_at "tst"); done))
local macro_rules | `(tactic| walk_at "go1") => `(tactic| first
  | apply sat_next
  | (apply sat_seq_ret; (focus (walk_at "evs"; done)))
  | (apply sat_ret; (focus (walk_at "evs"; done)))
  | (apply sat_seq_t; (focus walk_at "tst"))
  | (apply sat_seq_f; (focus walk_at "tst"))
  | (apply sat_t; (focus walk_at "tst"))
  | (apply sat_f; (focus walk_at "tst"))
  | (apply sat_seq; (focus (walk_at "evs"; done))))
local macro_rules | `(tactic| walk_at "go") => `(tactic| repeat walk_at "go1")
local macro_rules | `(tactic| walk_at "tb") => `(tactic| repeat' (first | with_reducible apply k_bnd2 | with_reducible apply k_bor2 | with_reducible apply k_bnt2 | walk_at "ev1"))
local macro_rules | `(tactic| walk_at "len") => `(tactic| (simp only [List.length_append, List.length_cons, List.length_nil]; show _ ≤ 1000000; omega))
set_option Elab.async false
set_option linter.all false
set_option maxRecDepth 100000
set_option maxHeartbeats 4000000
namespace L2
open PySem PySem.Spec PyProof.Rows
section
variable {ρ ρ' ρ2 : EnvW} {st st1 st2 : List Cell} {fa fe : FE} {fs : FA} {g gh rest : FS} {ws : List W} {w : W} {n i : Nat} {c : Str} {cs : List Str} {P : RS → Prop} {b : Bool}
def exP (c : Str) (I : List Cell → Prop) : RS → Prop := fun r => ∃ ρ st, r = .ex c ρ st ∧ I st
theorem run_exc {N : Nat} {body : FS} (h : Sat (exP c fun st' => ∃ x, st' = st ++ x) (body (ws.map some ++ List.replicate (N - ws.length) none) st)) : runF N body ws st = .ex c st := by
  obtain ⟨ρ, st', e, x, rfl⟩ := h
  unfold runF
  rw [e]
  simp only [trunc_app (st := st) (x := x) (ws := []) rfl]
theorem sat_seq_raise (h : P (.ex c ρ st)) : Sat P (xSeq (xRaise c) rest ρ st) := h
theorem k_def_ex {F : List W → List Cell → R W} (h1 : fs ρ st = .ok ws st1) (h2 : F ws st1 = .ex c st2) (hn : ws.length = n) : eDef n F fs ρ st = .ex c st2 := by unfold eDef; rw [h1]; simp only [R.bind_ok]; rw [if_pos hn]; exact h2
theorem k_set_ex (h : fe ρ st = .ex c st1) : xSet i fe ρ st = .ex c ρ st1 := by unfold xSet; rw [h]; rfl
theorem sat_seq_ex (h : g ρ st = .ex c ρ' st1) (h2 : P (.ex c ρ' st1)) : Sat P (xSeq g rest ρ st) := by unfold xSeq; rw [h]; exact h2
theorem k_try_ok (h : g ρ st = .nx ρ' st1) : xTry g cs i gh ρ st = .nx ρ' st1 := by unfold xTry; rw [h]
theorem k_try_ex (h : g ρ st = .ex c ρ' st1) (hc : c ∈ cs) (h2 : gh (ρ'.set i (some (.loc st1.length))) (st1 ++ [.exc c]) = .nx ρ2 st2) : xTry g cs i gh ρ st = .nx (ρ2.set i none) st2 := by
  unfold xTry; rw [h]; simp only; rw [if_pos hc, h2]; rfl
theorem k_isE {f : Str → Option Bool} (h : fa ρ st = .ok (.loc n) st1) (hc : st1[n]? = some (.exc c)) (hf : f c = some b) : eIsE f fa ρ st = .ok (.bl b) st1 := by
  unfold eIsE; rw [h]; simp only [R.bind_ok, hc, hf]
theorem o_eqB {p q : Bool} (h : (p == q) = b) : wEq (.bl p) (.bl q) st = .ok (.bl b) st := by rw [← h]; rfl
theorem o_popI {zs : List W} {k : Nat} {y : W} (h : st[n]? = some (.lst zs)) (hy : zs[k]? = some y) (hk : k < 1000000) : mPopI (.loc n) [.int k] st = .ok y (st.set n (.lst (zs.take k ++ zs.drop (k + 1)))) := by
  unfold mPopI; simp only [h]; rw [if_pos (by omega)]; simp only [Int.toNat_natCast, hy, ofO_some]
theorem o_insert {zs : List W} {k : Nat} {y : W} (h : st[n]? = some (.lst zs)) (hk : k ≤ zs.length) (hl : zs.length < LIM) (hk2 : k < 1000000) : mInsert (.loc n) [.int k, y] st = .ok .non (st.set n (.lst (zs.take k ++ y :: zs.drop k))) := by
  unfold mInsert; simp only [h, Int.toNat_natCast]; rw [if_pos ⟨by omega, hk, hl, by omega⟩]
theorem sat_cut (I : EnvW → List Cell → Prop) (h : Sat (nxP I) (g ρ st)) (h2 : ∀ ρ st, I ρ st → Sat P (rest ρ st)) : Sat P (xSeq g rest ρ st) := by
  obtain ⟨ρ', st', e, hi⟩ := h
  exact sat_seq e (h2 _ _ hi)
end
end L2
set_option Elab.async false
set_option linter.all false
set_option maxRecDepth 100000
set_option maxHeartbeats 4000000
namespace L2
open PySem PySem.Spec PyProof.Rows
section
variable {ρ : EnvW} {st st1 : List Cell} {fi : FI} {f : FG} {t : FT} {el : FE} {cap : List (Option Nat)}
end
end L2
set_option Elab.async false
set_option linter.all false
set_option maxRecDepth 100000
set_option maxHeartbeats 4000000
namespace P
open PySem L2
open PyProof.Rows (boot_sorted boot_set boot_ord boot_all boot_enumerate boot_int boot_str boot_bool boot_list boot_tuple boot_isinstance boot_max boot_min)
def top (i : Nat) : Stmt := PySem.Challenge.pw_trunksay_k13_statement_texts_refused.main.body.getD i (.Pass ⟨0, 0, 0, 0⟩)
abbrev s_is_letter : Stmt := top 13
abbrev n_is_letter : List Str := ["sign"]
abbrev p_is_letter : List Str := ["sign"]
theorem sc_is_letter : FnScope n_is_letter p_is_letter (defScope s_is_letter) := ⟨rfl, rfl, rfl, by decide +kernel, rfl, by decide +kernel, by decide +kernel⟩
abbrev s_is_plain : Stmt := top 18
abbrev n_is_plain : List Str := ["statement"]
abbrev p_is_plain : List Str := ["statement"]
theorem sc_is_plain : FnScope n_is_plain p_is_plain (defScope s_is_plain) := ⟨rfl, rfl, rfl, by decide +kernel, rfl, by decide +kernel, by decide +kernel⟩
abbrev s_inner_of : Stmt := top 19
abbrev n_inner_of : List Str := ["statement"]
abbrev p_inner_of : List Str := ["statement"]
theorem sc_inner_of : FnScope n_inner_of p_inner_of (defScope s_inner_of) := ⟨rfl, rfl, rfl, by decide +kernel, rfl, by decide +kernel, by decide +kernel⟩
abbrev s_parts_many : Stmt := top 20
abbrev n_parts_many : List Str := ["statement", "many", "waiting"]
abbrev p_parts_many : List Str := ["statement"]
theorem sc_parts_many : FnScope n_parts_many p_parts_many (defScope s_parts_many) := ⟨rfl, rfl, rfl, by decide +kernel, rfl, by decide +kernel, by decide +kernel⟩
abbrev s_is_said : Stmt := top 24
abbrev n_is_said : List Str := ["item"]
abbrev p_is_said : List Str := ["item"]
theorem sc_is_said : FnScope n_is_said p_is_said (defScope s_is_said) := ⟨rfl, rfl, rfl, by decide +kernel, rfl, by decide +kernel, by decide +kernel⟩
abbrev s_is_lettered : Stmt := top 25
abbrev n_is_lettered : List Str := ["item"]
abbrev p_is_lettered : List Str := ["item"]
theorem sc_is_lettered : FnScope n_is_lettered p_is_lettered (defScope s_is_lettered) := ⟨rfl, rfl, rfl, by decide +kernel, rfl, by decide +kernel, by decide +kernel⟩
abbrev s_plain_end : Stmt := top 26
abbrev n_plain_end : List Str := ["items"]
abbrev p_plain_end : List Str := ["items"]
theorem sc_plain_end : FnScope n_plain_end p_plain_end (defScope s_plain_end) := ⟨rfl, rfl, rfl, by decide +kernel, rfl, by decide +kernel, by decide +kernel⟩
abbrev s_front_end : Stmt := top 27
abbrev n_front_end : List Str := ["items"]
abbrev p_front_end : List Str := ["items"]
theorem sc_front_end : FnScope n_front_end p_front_end (defScope s_front_end) := ⟨rfl, rfl, rfl, by decide +kernel, rfl, by decide +kernel, by decide +kernel⟩
abbrev s_bracket_end : Stmt := top 28
abbrev n_bracket_end : List Str := ["items"]
abbrev p_bracket_end : List Str := ["items"]
theorem sc_bracket_end : FnScope n_bracket_end p_bracket_end (defScope s_bracket_end) := ⟨rfl, rfl, rfl, by decide +kernel, rfl, by decide +kernel, by decide +kernel⟩
abbrev s_end_of : Stmt := top 29
abbrev n_end_of : List Str := ["items", "ended"]
abbrev p_end_of : List Str := ["items"]
theorem sc_end_of : FnScope n_end_of p_end_of (defScope s_end_of) := ⟨rfl, rfl, rfl, by decide +kernel, rfl, by decide +kernel, by decide +kernel⟩
abbrev s_words_many : Stmt := top 30
abbrev n_words_many : List Str := ["statement"]
abbrev p_words_many : List Str := ["statement"]
theorem sc_words_many : FnScope n_words_many p_words_many (defScope s_words_many) := ⟨rfl, rfl, rfl, by decide +kernel, rfl, by decide +kernel, by decide +kernel⟩
abbrev s_read_words : Stmt := top 31
abbrev n_read_words : List Str := ["words", "items", "word", "ended"]
abbrev p_read_words : List Str := ["words"]
theorem sc_read_words : FnScope n_read_words p_read_words (defScope s_read_words) := ⟨rfl, rfl, rfl, by decide +kernel, rfl, by decide +kernel, by decide +kernel⟩
abbrev s_read_statement : Stmt := top 32
abbrev n_read_statement : List Str := ["text", "statement"]
abbrev p_read_statement : List Str := ["text"]
theorem sc_read_statement : FnScope n_read_statement p_read_statement (defScope s_read_statement) := ⟨rfl, rfl, rfl, by decide +kernel, rfl, by decide +kernel, by decide +kernel⟩
abbrev s__law_cell : Stmt := top 34
abbrev n__law_cell : List Str := ["_law_script", "_law_k"]
abbrev p__law_cell : List Str := ["_law_script", "_law_k"]
theorem sc__law_cell : FnScope n__law_cell p__law_cell (defScope s__law_cell) := ⟨rfl, rfl, rfl, by decide +kernel, rfl, by decide +kernel, by decide +kernel⟩
abbrev s__law_mixed : Stmt := top 35
abbrev n__law_mixed : List Str := ["_law_cell_here", "_law_k", "_law_salt", "_law_first"]
abbrev p__law_mixed : List Str := ["_law_cell_here", "_law_k", "_law_salt"]
theorem sc__law_mixed : FnScope n__law_mixed p__law_mixed (defScope s__law_mixed) := ⟨rfl, rfl, rfl, by decide +kernel, rfl, by decide +kernel, by decide +kernel⟩
abbrev s__law_draws : Stmt := top 36
abbrev n__law_draws : List Str := ["_law_cell_here", "_law_many", "_law_salt", "_law_found", "_law_rest", "_law_k"]
abbrev p__law_draws : List Str := ["_law_cell_here", "_law_many", "_law_salt"]
theorem sc__law_draws : FnScope n__law_draws p__law_draws (defScope s__law_draws) := ⟨rfl, rfl, rfl, by decide +kernel, rfl, by decide +kernel, by decide +kernel⟩
abbrev s__law_pool : Stmt := top 37
abbrev n__law_pool : List Str := ["_law_cell_here", "_law_many", "_law_salt", "_law_rest", "_law_found", "_law_d", "_law_at"]
abbrev p__law_pool : List Str := ["_law_cell_here", "_law_many", "_law_salt"]
theorem sc__law_pool : FnScope n__law_pool p__law_pool (defScope s__law_pool) := ⟨rfl, rfl, rfl, by decide +kernel, rfl, by decide +kernel, by decide +kernel⟩
abbrev s__law_built : Stmt := top 38
abbrev n__law_built : List Str := ["_law_draws_here", "_law_many", "_law_pool_here", "_law_words", "_law_heap", "_law_parts_here", "_law_k", "_law_at", "_law_a", "_law_b", "_law_last", "_law_inner"]
abbrev p__law_built : List Str := ["_law_draws_here", "_law_many", "_law_pool_here"]
theorem sc__law_built : FnScope n__law_built p__law_built (defScope s__law_built) := ⟨rfl, rfl, rfl, by decide +kernel, rfl, by decide +kernel, by decide +kernel⟩
abbrev s__law_one_of : Stmt := top 39
abbrev n__law_one_of : List Str := ["_law_script", "_law_k", "_law_sizes", "_law_pool_here", "_law_draws_here"]
abbrev p__law_one_of : List Str := ["_law_script", "_law_k"]
theorem sc__law_one_of : FnScope n__law_one_of p__law_one_of (defScope s__law_one_of) := ⟨rfl, rfl, rfl, by decide +kernel, rfl, by decide +kernel, by decide +kernel⟩
abbrev s__law_written : Stmt := top 40
abbrev n__law_written : List Str := ["_law_said"]
abbrev p__law_written : List Str := ["_law_said"]
theorem sc__law_written : FnScope n__law_written p__law_written (defScope s__law_written) := ⟨rfl, rfl, rfl, by decide +kernel, rfl, by decide +kernel, by decide +kernel⟩
abbrev s__law_letter_at : Stmt := top 41
abbrev n__law_letter_at : List Str := ["_law_words", "_law_at"]
abbrev p__law_letter_at : List Str := ["_law_words", "_law_at"]
theorem sc__law_letter_at : FnScope n__law_letter_at p__law_letter_at (defScope s__law_letter_at) := ⟨rfl, rfl, rfl, by decide +kernel, rfl, by decide +kernel, by decide +kernel⟩
abbrev s__law_parsed : Stmt := top 42
abbrev n__law_parsed : List Str := ["_law_words", "_law_at", "_law_word", "_law_inner"]
abbrev p__law_parsed : List Str := ["_law_words", "_law_at"]
theorem sc__law_parsed : FnScope n__law_parsed p__law_parsed (defScope s__law_parsed) := ⟨rfl, rfl, rfl, by decide +kernel, rfl, by decide +kernel, by decide +kernel⟩
abbrev s__law_joint : Stmt := top 43
abbrev n__law_joint : List Str := ["_law_words", "_law_at", "_law_one", "_law_other"]
abbrev p__law_joint : List Str := ["_law_words", "_law_at"]
theorem sc__law_joint : FnScope n__law_joint p__law_joint (defScope s__law_joint) := ⟨rfl, rfl, rfl, by decide +kernel, rfl, by decide +kernel, by decide +kernel⟩
abbrev s__law_parts : Stmt := top 44
abbrev n__law_parts : List Str := ["_law_said", "_law_found", "_law_inner"]
abbrev p__law_parts : List Str := ["_law_said"]
theorem sc__law_parts : FnScope n__law_parts p__law_parts (defScope s__law_parts) := ⟨rfl, rfl, rfl, by decide +kernel, rfl, by decide +kernel, by decide +kernel⟩
abbrev s__law_spoilt : Stmt := top 45
abbrev n__law_spoilt : List Str := ["_law_text", "_law_draws_here", "_law_menu", "_law_words", "_law_how", "_law_at", "_law_other", "_law_new", "_law_kept"]
abbrev p__law_spoilt : List Str := ["_law_text", "_law_draws_here"]
theorem sc__law_spoilt : FnScope n__law_spoilt p__law_spoilt (defScope s__law_spoilt) := ⟨rfl, rfl, rfl, by decide +kernel, rfl, by decide +kernel, by decide +kernel⟩
abbrev s__law_text_of : Stmt := top 46
abbrev n__law_text_of : List Str := ["_law_script", "_law_k", "_law_draws_here", "_law_kind", "_law_spoils", "_law_plain", "_law_text", "_law_many", "_law_pad", "_law_turn"]
abbrev p__law_text_of : List Str := ["_law_script", "_law_k"]
theorem sc__law_text_of : FnScope n__law_text_of p__law_text_of (defScope s__law_text_of) := ⟨rfl, rfl, rfl, by decide +kernel, rfl, by decide +kernel, by decide +kernel⟩
abbrev s__law_read : Stmt := top 47
abbrev n__law_read : List Str := ["_law_text", "_law_told", "e"]
abbrev p__law_read : List Str := ["_law_text"]
theorem sc__law_read : FnScope n__law_read p__law_read (defScope s__law_read) := ⟨rfl, rfl, rfl, by decide +kernel, rfl, by decide +kernel, by decide +kernel⟩
abbrev s__law_same : Stmt := top 48
abbrev n__law_same : List Str := ["_law_found", "_law_due_here", "_law_k"]
abbrev p__law_same : List Str := ["_law_found", "_law_due_here"]
theorem sc__law_same : FnScope n__law_same p__law_same (defScope s__law_same) := ⟨rfl, rfl, rfl, by decide +kernel, rfl, by decide +kernel, by decide +kernel⟩
abbrev s__law_due : Stmt := top 49
abbrev n__law_due : List Str := ["_law_text", "_law_great", "_law_words", "_law_found"]
abbrev p__law_due : List Str := ["_law_text"]
theorem sc__law_due : FnScope n__law_due p__law_due (defScope s__law_due) := ⟨rfl, rfl, rfl, by decide +kernel, rfl, by decide +kernel, by decide +kernel⟩
abbrev s_law : Stmt := top 50
abbrev n_law : List Str := ["_law_script", "_law_first", "_law_second", "_law_text"]
abbrev p_law : List Str := ["_law_script"]
theorem sc_law : FnScope n_law p_law (defScope s_law) := ⟨rfl, rfl, rfl, by decide +kernel, rfl, by decide +kernel, by decide +kernel⟩
structure Bl (mg : Str → Option Value) : Prop where
  ValueError : mg "ValueError" = Option.none
  bool : mg "bool" = Option.none
  int : mg "int" = Option.none
  isinstance : mg "isinstance" = Option.none
  len : mg "len" = Option.none
  range : mg "range" = Option.none
  str : mg "str" = Option.none
  tuple : mg "tuple" = Option.none
def c_ALL_LETTERS : W := .str [65, 66, 67, 68, 69, 70, 71, 72, 73, 74, 75, 76, 77, 78, 79, 80, 81, 82, 83, 84, 85, 86, 87, 88, 89, 90, 97, 98, 99, 100, 101, 102, 103, 104, 105, 106, 107, 108, 109, 110, 111, 112, 113, 114, 115, 116, 117, 118, 119, 120, 121, 122]
def c_TWO_LETTERED : W := .tup [.str [105, 110], .str [108, 101, 102, 116], .str [114, 105, 103, 104, 116], .str [98, 101, 108, 111, 119]]
def c_JOINING : W := .tup [.str [97, 110, 100], .str [111, 114]]
def c_BINDING : W := .tup [.str [115, 111, 109, 101], .str [97, 108, 108]]
def c_MOST_SIGNS : W := .int 300
def c_MOST_PARTS : W := .int 30
structure Gc (K : PySem.W.Frag) (mg : Str → Option Value) : Prop where
  ALL_LETTERS : ∃ u v, mg "ALL_LETTERS" = some u ∧ RelV v u ∧ ∀ μ H, RelW K μ H c_ALL_LETTERS v
  TWO_LETTERED : ∃ u v, mg "TWO_LETTERED" = some u ∧ RelV v u ∧ ∀ μ H, RelW K μ H c_TWO_LETTERED v
  JOINING : ∃ u v, mg "JOINING" = some u ∧ RelV v u ∧ ∀ μ H, RelW K μ H c_JOINING v
  BINDING : ∃ u v, mg "BINDING" = some u ∧ RelV v u ∧ ∀ μ H, RelW K μ H c_BINDING v
  MOST_SIGNS : ∃ u v, mg "MOST_SIGNS" = some u ∧ RelV v u ∧ ∀ μ H, RelW K μ H c_MOST_SIGNS v
  MOST_PARTS : ∃ u v, mg "MOST_PARTS" = some u ∧ RelV v u ∧ ∀ μ H, RelW K μ H c_MOST_PARTS v
abbrev cs_TrunkError : List Str := ["TrunkError", "NoStatement", "TooGreat"]
def ti_NoStatement : Str → Option Bool := fun c => if c = "TrunkError" then some false else if c = "NoStatement" then some true else if c = "TooGreat" then some false else none
def ti_TooGreat : Str → Option Bool := fun c => if c = "TrunkError" then some false else if c = "NoStatement" then some false else if c = "TooGreat" then some true else none
def ti_t0 : Str → Option Bool := fun c => if c = "TrunkError" then some false else if c = "NoStatement" then some false else if c = "TooGreat" then some false else none
def ti_ValueError : Str → Option Bool := fun c => if c = "TrunkError" then some true else if c = "NoStatement" then some true else if c = "TooGreat" then some true else none
theorem boot_VE : bootBuiltins "ValueError" = some (.type "ValueError") := by first | rfl | kernel_rfl | decide +kernel
structure Cls (K : PySem.W.Frag) (mg : Str → Option Value) : Prop where
  TrunkError : ExcW K mg "TrunkError"
  NoStatement : ExcW K mg "NoStatement"
  TooGreat : ExcW K mg "TooGreat"
  isi_NoStatement : ∃ Ta, mg "NoStatement" = some (.ref Ta) ∧ IsiW K mg (.ref Ta) ti_NoStatement
  isi_TooGreat : ∃ Ta, mg "TooGreat" = some (.ref Ta) ∧ IsiW K mg (.ref Ta) ti_TooGreat
  isi_t0 : ∃ A0, ∃ A1, ∃ A2, ∃ A3, ∃ A4, ∃ A5, ∃ A6, mg "NoTree" = some (.ref A0) ∧ mg "NoPlace" = some (.ref A1) ∧ mg "NoNumber" = some (.ref A2) ∧ mg "NoName" = some (.ref A3) ∧ mg "NoLine" = some (.ref A4) ∧ mg "NothingDone" = some (.ref A5) ∧ mg "NothingHeld" = some (.ref A6) ∧ IsiTW K mg [A0, A1, A2, A3, A4, A5, A6] ti_t0
  isi_ValueError : IsiW K mg (.type "ValueError") ti_ValueError
  catch_TrunkError : CatchW K mg "TrunkError" cs_TrunkError
section
variable {P : Program} {w : World} {K : PySem.W.Frag} {mg : Str → Option Value} {base : Heap} {f : Addr} {fd : FuncData}
noncomputable def g_is_letter : FS := (xRet (eAnd (e2 wEq (eCall bLen (aCons (eVar 0) aNil)) (eC (.int 1))) (e2 (wIn false) (eVar 0) (eC c_ALL_LETTERS))))
noncomputable def f_is_letter : List W → List Cell → R W := runF 1 g_is_letter
theorem ok_is_letter (F : Fun K "is_letter" "is_letter" s_is_letter f fd) (B : Bl mg) (G : Gc K mg)  : FnOk P w K mg base (CX1 P w) 1 f fd p_is_letter (spW K mg 1 f_is_letter) :=
  fnW_of (k := 0) F sc_is_letter rfl fun cdv A outer s H E hr => (sb_one (ss_ret (s_and (s_cmp (w_eq hr) (s_callB b_len B.len PySem.boot_len (sa_cons (s_var 0) sa_nil)) s_int) (s_one (s_cmp (w_in hr) (s_var 0) (s_gc G.ALL_LETTERS))))))
noncomputable def g_is_plain : FS := (xRet (eOr (e2 wEq (e2 wIx (eVar 0) (eC (.int 0))) (eC (.str [111, 110, 101]))) (e2 (wIn false) (e2 wIx (eVar 0) (eC (.int 0))) (eC c_TWO_LETTERED))))
noncomputable def f_is_plain : List W → List Cell → R W := runF 1 g_is_plain
theorem ok_is_plain (F : Fun K "is_plain" "is_plain" s_is_plain f fd) (G : Gc K mg)  : FnOk P w K mg base (CX1 P w) 1 f fd p_is_plain (spW K mg 1 f_is_plain) :=
  fnW_of (k := 0) F sc_is_plain rfl fun cdv A outer s H E hr => (sb_one (ss_ret (s_or (s_cmp (w_eq hr) (s_ix (s_var 0) s_int) s_str) (s_one (s_cmp (w_in hr) (s_ix (s_var 0) s_int) (s_gc G.TWO_LETTERED))))))
noncomputable def g_inner_of : FS := (xSeq (xIf (asB (eDef 1 f_is_plain (aCons (eVar 0) aNil))) (xRet (eTup aNil)) xNext) (xSeq (xIf (asB (e2 (wIn false) (e2 wIx (eVar 0) (eC (.int 0))) (eC c_BINDING))) (xRet (eSl (eVar 0) (oSome (eC (.int 2))) oNone)) xNext) (xRet (eSl (eVar 0) (oSome (eC (.int 1))) oNone))))
noncomputable def f_inner_of : List W → List Cell → R W := runF 1 g_inner_of
theorem ok_inner_of (F : Fun K "inner_of" "inner_of" s_inner_of f fd) (G : Gc K mg) (h_is_plain : HasW P w K mg base 1 "is_plain" 1 f_is_plain) : FnOk P w K mg base (CX1 P w) 2 f fd p_inner_of (spW K mg 1 f_inner_of) :=
  fnW_of (k := 1) F sc_inner_of rfl fun cdv A outer s H E hr => (sb_cons (ss_if (st_val (s_def h_is_plain hr (by omega) (sa_cons (s_var 0) sa_nil))) (sb_one (ss_ret (s_tup sa_nil))) sb_nil) (sb_cons (ss_if (st_cmp (w_in hr) (s_ix (s_var 0) s_int) (s_gc G.BINDING)) (sb_one (ss_ret (s_sl (s_var 0) (so_some s_int) so_none))) sb_nil) (sb_one (ss_ret (s_sl (s_var 0) (so_some s_int) so_none)))))
noncomputable def g_parts_many : FS := (xSeq (xSet 1 (eC (.int 0))) (xSeq (xSet 2 (eLst (aCons (eVar 0) aNil))) (xSeq (xWhile (asB (e2 wGt (eCall bLen (aCons (eVar 2) aNil)) (eC (.int 0)))) (xSeq (xSet 1 (e2 wAdd (eVar 1) (eC (.int 1)))) (xExpr (eML mExtendA (eVar 2) (aCons (eDef 1 f_inner_of (aCons (eML mPop (eVar 2) aNil) aNil)) aNil))))) (xRet (eVar 1)))))
noncomputable def f_parts_many : List W → List Cell → R W := runF 3 g_parts_many
theorem ok_parts_many (F : Fun K "parts_many" "parts_many" s_parts_many f fd) (B : Bl mg) (h_inner_of : HasW P w K mg base 2 "inner_of" 1 f_inner_of) : FnOk P w K mg base (CX1 P w) 3 f fd p_parts_many (spW K mg 1 f_parts_many) :=
  fnW_of (k := 2) F sc_parts_many rfl fun cdv A outer s H E hr => (sb_cons (ss_set (i := 1) sc_parts_many.nd rfl (Or.inl rfl) s_int) (sb_cons (ss_set (i := 2) sc_parts_many.nd rfl (Or.inl rfl) (s_lst (sa_cons (s_var 0) sa_nil))) (sb_cons (ss_while (st_cmp w_gt (s_callB b_len B.len PySem.boot_len (sa_cons (s_var 2) sa_nil)) s_int) (sb_cons (ss_set (i := 1) sc_parts_many.nd rfl (Or.inl rfl) (s_op w_add (s_var 1) s_int)) (sb_one (ss_expr (s_ml PySem.F.slot_list_extend PySem.F.type_list_extend m_extendAW (s_var 2) (sa_cons (s_def h_inner_of hr (by omega) (sa_cons (s_ml0 PySem.F.slot_list_pop PySem.F.type_list_pop m_popW (s_var 2)) sa_nil)) sa_nil)))))) (sb_one (ss_ret (s_var 1))))))
noncomputable def g_is_said : FS := (xRet (eIsT "tuple" (eVar 0)))
noncomputable def f_is_said : List W → List Cell → R W := runF 1 g_is_said
theorem ok_is_said (F : Fun K "is_said" "is_said" s_is_said f fd) (B : Bl mg)  : FnOk P w K mg base (CX1 P w) 1 f fd p_is_said (spW K mg 1 f_is_said) :=
  fnW_of (k := 0) F sc_is_said rfl fun cdv A outer s H E hr => (sb_one (ss_ret (s_isT B.isinstance B.tuple boot_tuple (s_var 0))))
noncomputable def g_is_lettered : FS := (xRet (eAnd (eNot (eDef 1 f_is_said (aCons (eVar 0) aNil))) (eDef 1 f_is_letter (aCons (eVar 0) aNil))))
noncomputable def f_is_lettered : List W → List Cell → R W := runF 1 g_is_lettered
theorem ok_is_lettered (F : Fun K "is_lettered" "is_lettered" s_is_lettered f fd)  (h_is_letter : HasW P w K mg base 1 "is_letter" 1 f_is_letter) (h_is_said : HasW P w K mg base 1 "is_said" 1 f_is_said) : FnOk P w K mg base (CX1 P w) 2 f fd p_is_lettered (spW K mg 1 f_is_lettered) :=
  fnW_of (k := 1) F sc_is_lettered rfl fun cdv A outer s H E hr => (sb_one (ss_ret (s_and (s_not (s_def h_is_said hr (by omega) (sa_cons (s_var 0) sa_nil))) (s_one (s_def h_is_letter hr (by omega) (sa_cons (s_var 0) sa_nil))))))
noncomputable def g_plain_end : FS := (xSeq (xIf (bnd (asB (e2 wGe (eCall bLen (aCons (eVar 0) aNil)) (eC (.int 2)))) (bnd (asB (e2 wEq (e2 wIx (eVar 0) (eNeg (eC (.int 2)))) (eC (.str [111, 110, 101])))) (asB (eDef 1 f_is_lettered (aCons (e2 wIx (eVar 0) (eNeg (eC (.int 1)))) aNil))))) (xRet (eTup (aCons (eC (.str [111, 110, 101])) (aCons (e2 wIx (eVar 0) (eNeg (eC (.int 1)))) aNil)))) xNext) (xSeq (xIf (bnd (asB (e2 wGe (eCall bLen (aCons (eVar 0) aNil)) (eC (.int 3)))) (bnd (asB (e2 (wIn false) (e2 wIx (eVar 0) (eNeg (eC (.int 2)))) (eC c_TWO_LETTERED))) (bnd (asB (eDef 1 f_is_lettered (aCons (e2 wIx (eVar 0) (eNeg (eC (.int 3)))) aNil))) (asB (eDef 1 f_is_lettered (aCons (e2 wIx (eVar 0) (eNeg (eC (.int 1)))) aNil)))))) (xRet (eTup (aCons (e2 wIx (eVar 0) (eNeg (eC (.int 2)))) (aCons (e2 wIx (eVar 0) (eNeg (eC (.int 3)))) (aCons (e2 wIx (eVar 0) (eNeg (eC (.int 1)))) aNil))))) xNext) (xRet (eC .non))))
noncomputable def f_plain_end : List W → List Cell → R W := runF 1 g_plain_end
theorem ok_plain_end (F : Fun K "plain_end" "plain_end" s_plain_end f fd) (B : Bl mg) (G : Gc K mg) (h_is_lettered : HasW P w K mg base 2 "is_lettered" 1 f_is_lettered) : FnOk P w K mg base (CX1 P w) 3 f fd p_plain_end (spW K mg 1 f_plain_end) :=
  fnW_of (k := 2) F sc_plain_end rfl fun cdv A outer s H E hr => (sb_cons (ss_if (st_w (sw_and (st_cmp w_ge (s_callB b_len B.len PySem.boot_len (sa_cons (s_var 0) sa_nil)) s_int) (sw_and (st_cmp (w_eq hr) (s_ix (s_var 0) (s_neg s_int)) s_str) (sw_and1 (st_val (s_def h_is_lettered hr (by omega) (sa_cons (s_ix (s_var 0) (s_neg s_int)) sa_nil))))))) (sb_one (ss_ret (s_tup (sa_cons s_str (sa_cons (s_ix (s_var 0) (s_neg s_int)) sa_nil))))) sb_nil) (sb_cons (ss_if (st_w (sw_and (st_cmp w_ge (s_callB b_len B.len PySem.boot_len (sa_cons (s_var 0) sa_nil)) s_int) (sw_and (st_cmp (w_in hr) (s_ix (s_var 0) (s_neg s_int)) (s_gc G.TWO_LETTERED)) (sw_and (st_val (s_def h_is_lettered hr (by omega) (sa_cons (s_ix (s_var 0) (s_neg s_int)) sa_nil))) (sw_and1 (st_val (s_def h_is_lettered hr (by omega) (sa_cons (s_ix (s_var 0) (s_neg s_int)) sa_nil)))))))) (sb_one (ss_ret (s_tup (sa_cons (s_ix (s_var 0) (s_neg s_int)) (sa_cons (s_ix (s_var 0) (s_neg s_int)) (sa_cons (s_ix (s_var 0) (s_neg s_int)) sa_nil)))))) sb_nil) (sb_one (ss_ret s_non))))
noncomputable def g_front_end : FS := (xSeq (xIf (bnt (asB (eDef 1 f_is_said (aCons (e2 wIx (eVar 0) (eNeg (eC (.int 1)))) aNil)))) (xRet (eC .non)) xNext) (xSeq (xIf (bnd (asB (e2 wGe (eCall bLen (aCons (eVar 0) aNil)) (eC (.int 2)))) (asB (e2 wEq (e2 wIx (eVar 0) (eNeg (eC (.int 2)))) (eC (.str [110, 111, 116]))))) (xRet (eTup (aCons (eC (.str [110, 111, 116])) (aCons (e2 wIx (eVar 0) (eNeg (eC (.int 1)))) aNil)))) xNext) (xSeq (xIf (bnd (asB (e2 wGe (eCall bLen (aCons (eVar 0) aNil)) (eC (.int 3)))) (bnd (asB (e2 (wIn false) (e2 wIx (eVar 0) (eNeg (eC (.int 3)))) (eC c_BINDING))) (asB (eDef 1 f_is_lettered (aCons (e2 wIx (eVar 0) (eNeg (eC (.int 2)))) aNil))))) (xRet (eTup (aCons (e2 wIx (eVar 0) (eNeg (eC (.int 3)))) (aCons (e2 wIx (eVar 0) (eNeg (eC (.int 2)))) (aCons (e2 wIx (eVar 0) (eNeg (eC (.int 1)))) aNil))))) xNext) (xRet (eC .non)))))
noncomputable def f_front_end : List W → List Cell → R W := runF 1 g_front_end
theorem ok_front_end (F : Fun K "front_end" "front_end" s_front_end f fd) (B : Bl mg) (G : Gc K mg) (h_is_lettered : HasW P w K mg base 2 "is_lettered" 1 f_is_lettered) (h_is_said : HasW P w K mg base 1 "is_said" 1 f_is_said) : FnOk P w K mg base (CX1 P w) 3 f fd p_front_end (spW K mg 1 f_front_end) :=
  fnW_of (k := 2) F sc_front_end rfl fun cdv A outer s H E hr => (sb_cons (ss_if (st_not (st_val (s_def h_is_said hr (by omega) (sa_cons (s_ix (s_var 0) (s_neg s_int)) sa_nil)))) (sb_one (ss_ret s_non)) sb_nil) (sb_cons (ss_if (st_w (sw_and (st_cmp w_ge (s_callB b_len B.len PySem.boot_len (sa_cons (s_var 0) sa_nil)) s_int) (sw_and1 (st_cmp (w_eq hr) (s_ix (s_var 0) (s_neg s_int)) s_str)))) (sb_one (ss_ret (s_tup (sa_cons s_str (sa_cons (s_ix (s_var 0) (s_neg s_int)) sa_nil))))) sb_nil) (sb_cons (ss_if (st_w (sw_and (st_cmp w_ge (s_callB b_len B.len PySem.boot_len (sa_cons (s_var 0) sa_nil)) s_int) (sw_and (st_cmp (w_in hr) (s_ix (s_var 0) (s_neg s_int)) (s_gc G.BINDING)) (sw_and1 (st_val (s_def h_is_lettered hr (by omega) (sa_cons (s_ix (s_var 0) (s_neg s_int)) sa_nil))))))) (sb_one (ss_ret (s_tup (sa_cons (s_ix (s_var 0) (s_neg s_int)) (sa_cons (s_ix (s_var 0) (s_neg s_int)) (sa_cons (s_ix (s_var 0) (s_neg s_int)) sa_nil)))))) sb_nil) (sb_one (ss_ret s_non)))))
noncomputable def g_bracket_end : FS := (xSeq (xIf (bor (asB (e2 wLt' (eCall bLen (aCons (eVar 0) aNil)) (eC (.int 5)))) (bor (asB (e2 wNe (e2 wIx (eVar 0) (eNeg (eC (.int 1)))) (eC (.str [41])))) (bor (asB (e2 wNe (e2 wIx (eVar 0) (eNeg (eC (.int 5)))) (eC (.str [40])))) (asB (e2 (wIn true) (e2 wIx (eVar 0) (eNeg (eC (.int 3)))) (eC c_JOINING)))))) (xRet (eC .non)) xNext) (xSeq (xIf (bor (bnt (asB (eDef 1 f_is_said (aCons (e2 wIx (eVar 0) (eNeg (eC (.int 4)))) aNil)))) (bnt (asB (eDef 1 f_is_said (aCons (e2 wIx (eVar 0) (eNeg (eC (.int 2)))) aNil))))) (xRet (eC .non)) xNext) (xRet (eTup (aCons (e2 wIx (eVar 0) (eNeg (eC (.int 3)))) (aCons (e2 wIx (eVar 0) (eNeg (eC (.int 4)))) (aCons (e2 wIx (eVar 0) (eNeg (eC (.int 2)))) aNil)))))))
noncomputable def f_bracket_end : List W → List Cell → R W := runF 1 g_bracket_end
theorem ok_bracket_end (F : Fun K "bracket_end" "bracket_end" s_bracket_end f fd) (B : Bl mg) (G : Gc K mg) (h_is_said : HasW P w K mg base 1 "is_said" 1 f_is_said) : FnOk P w K mg base (CX1 P w) 2 f fd p_bracket_end (spW K mg 1 f_bracket_end) :=
  fnW_of (k := 1) F sc_bracket_end rfl fun cdv A outer s H E hr => (sb_cons (ss_if (st_w (sw_or (st_cmp w_lt (s_callB b_len B.len PySem.boot_len (sa_cons (s_var 0) sa_nil)) s_int) (sw_or (st_cmp (w_ne hr) (s_ix (s_var 0) (s_neg s_int)) s_str) (sw_or (st_cmp (w_ne hr) (s_ix (s_var 0) (s_neg s_int)) s_str) (sw_or1 (st_cmp (w_nin hr) (s_ix (s_var 0) (s_neg s_int)) (s_gc G.JOINING))))))) (sb_one (ss_ret s_non)) sb_nil) (sb_cons (ss_if (st_w (sw_or (st_not (st_val (s_def h_is_said hr (by omega) (sa_cons (s_ix (s_var 0) (s_neg s_int)) sa_nil)))) (sw_or1 (st_not (st_val (s_def h_is_said hr (by omega) (sa_cons (s_ix (s_var 0) (s_neg s_int)) sa_nil))))))) (sb_one (ss_ret s_non)) sb_nil) (sb_one (ss_ret (s_tup (sa_cons (s_ix (s_var 0) (s_neg s_int)) (sa_cons (s_ix (s_var 0) (s_neg s_int)) (sa_cons (s_ix (s_var 0) (s_neg s_int)) sa_nil))))))))
noncomputable def g_end_of : FS := (xSeq (xFor (itAny (eTup (aCons (eDef 1 f_plain_end (aCons (eVar 0) aNil)) (aCons (eDef 1 f_front_end (aCons (eVar 0) aNil)) (aCons (eDef 1 f_bracket_end (aCons (eVar 0) aNil)) aNil))))) (gNm 1) (xIf (asB (eNotN (eVar 1))) (xRet (eVar 1)) xNext)) (xRet (eC .non)))
noncomputable def f_end_of : List W → List Cell → R W := runF 2 g_end_of
theorem ok_end_of (F : Fun K "end_of" "end_of" s_end_of f fd)  (h_bracket_end : HasW P w K mg base 2 "bracket_end" 1 f_bracket_end) (h_front_end : HasW P w K mg base 3 "front_end" 1 f_front_end) (h_plain_end : HasW P w K mg base 3 "plain_end" 1 f_plain_end) : FnOk P w K mg base (CX1 P w) 4 f fd p_end_of (spW K mg 1 f_end_of) :=
  fnW_of (k := 3) F sc_end_of rfl fun cdv A outer s H E hr => (sb_cons (ss_for (si_any (s_tup (sa_cons (s_def h_plain_end hr (by omega) (sa_cons (s_var 0) sa_nil)) (sa_cons (s_def h_front_end hr (by omega) (sa_cons (s_var 0) sa_nil)) (sa_cons (s_def h_bracket_end hr (by omega) (sa_cons (s_var 0) sa_nil)) sa_nil))))) (sg_name (i := 1) sc_end_of.nd rfl (Or.inl rfl)) (sb_one (ss_if (st_notN (s_var 1)) (sb_one (ss_ret (s_var 1))) sb_nil))) (sb_one (ss_ret s_non)))
noncomputable def g_words_many : FS := (xRet (eIf (asB (e2 (wIn false) (e2 wIx (eVar 0) (eC (.int 0))) (eC c_JOINING))) (e2 wAdd (eCall bLen (aCons (eVar 0) aNil)) (eC (.int 2))) (eCall bLen (aCons (eVar 0) aNil))))
noncomputable def f_words_many : List W → List Cell → R W := runF 1 g_words_many
theorem ok_words_many (F : Fun K "words_many" "words_many" s_words_many f fd) (B : Bl mg) (G : Gc K mg)  : FnOk P w K mg base (CX1 P w) 1 f fd p_words_many (spW K mg 1 f_words_many) :=
  fnW_of (k := 0) F sc_words_many rfl fun cdv A outer s H E hr => (sb_one (ss_ret (s_if (st_cmp (w_in hr) (s_ix (s_var 0) s_int) (s_gc G.JOINING)) (s_op w_add (s_callB b_len B.len PySem.boot_len (sa_cons (s_var 0) sa_nil)) s_int) (s_callB b_len B.len PySem.boot_len (sa_cons (s_var 0) sa_nil)))))
noncomputable def g_read_words : FS := (xSeq (xSet 1 (eLst aNil)) (xSeq (xFor (itAny (eVar 0)) (gNm 2) (xSeq (xExpr (eML mAppend (eVar 1) (aCons (eVar 2) aNil))) (xSeq (xSet 3 (eDef 1 f_end_of (aCons (eVar 1) aNil))) (xWhile (asB (eNotN (eVar 3))) (xSeq (xSet 1 (e2 wAdd (eSl (eVar 1) oNone (oSome (e2 wSub (eCall bLen (aCons (eVar 1) aNil)) (eDef 1 f_words_many (aCons (eVar 3) aNil))))) (eLst (aCons (eVar 3) aNil)))) (xSet 3 (eDef 1 f_end_of (aCons (eVar 1) aNil)))))))) (xSeq (xIf (bor (asB (e2 wNe (eCall bLen (aCons (eVar 1) aNil)) (eC (.int 1)))) (bnt (asB (eDef 1 f_is_said (aCons (e2 wIx (eVar 1) (eC (.int 0))) aNil))))) (xRaise "NoStatement") xNext) (xRet (e2 wIx (eVar 1) (eC (.int 0)))))))
noncomputable def f_read_words : List W → List Cell → R W := runF 4 g_read_words
theorem ok_read_words (F : Fun K "read_words" "read_words" s_read_words f fd) (B : Bl mg) (C : Cls K mg) (h_end_of : HasW P w K mg base 4 "end_of" 1 f_end_of) (h_is_said : HasW P w K mg base 1 "is_said" 1 f_is_said) (h_words_many : HasW P w K mg base 1 "words_many" 1 f_words_many) : FnOk P w K mg base (CX1 P w) 5 f fd p_read_words (spW K mg 1 f_read_words) :=
  fnW_of (k := 4) F sc_read_words rfl fun cdv A outer s H E hr => (sb_cons (ss_set (i := 1) sc_read_words.nd rfl (Or.inl rfl) (s_lst sa_nil)) (sb_cons (ss_for (si_any (s_var 0)) (sg_name (i := 2) sc_read_words.nd rfl (Or.inl rfl)) (sb_cons (ss_expr (s_ml PySem.F.slot_list_append PySem.F.type_list_append m_appendW (s_var 1) (sa_cons (s_var 2) sa_nil))) (sb_cons (ss_set (i := 3) sc_read_words.nd rfl (Or.inl rfl) (s_def h_end_of hr (by omega) (sa_cons (s_var 1) sa_nil))) (sb_one (ss_while (st_notN (s_var 3)) (sb_cons (ss_set (i := 1) sc_read_words.nd rfl (Or.inl rfl) (s_op w_add (s_sl (s_var 1) so_none (so_some (s_op w_sub (s_callB b_len B.len PySem.boot_len (sa_cons (s_var 1) sa_nil)) (s_def h_words_many hr (by omega) (sa_cons (s_var 3) sa_nil))))) (s_lst (sa_cons (s_var 3) sa_nil)))) (sb_one (ss_set (i := 3) sc_read_words.nd rfl (Or.inl rfl) (s_def h_end_of hr (by omega) (sa_cons (s_var 1) sa_nil)))))))))) (sb_cons (ss_if (st_w (sw_or (st_cmp (w_ne hr) (s_callB b_len B.len PySem.boot_len (sa_cons (s_var 1) sa_nil)) s_int) (sw_or1 (st_not (st_val (s_def h_is_said hr (by omega) (sa_cons (s_ix (s_var 1) s_int) sa_nil))))))) (sb_one (ss_raise C.NoStatement)) sb_nil) (sb_one (ss_ret (s_ix (s_var 1) s_int))))))
noncomputable def g_read_statement : FS := (xSeq (xIf (asB (e2 wGt (eCall bLen (aCons (eVar 0) aNil)) (eC c_MOST_SIGNS))) (xRaise "TooGreat") xNext) (xSeq (xSet 1 (eDef 1 f_read_words (aCons (eMS mSplit (eVar 0) (aCons (eC (.str [32])) aNil)) aNil))) (xSeq (xIf (asB (e2 wGt (eDef 1 f_parts_many (aCons (eVar 1) aNil)) (eC c_MOST_PARTS))) (xRaise "TooGreat") xNext) (xRet (eVar 1)))))
noncomputable def f_read_statement : List W → List Cell → R W := runF 2 g_read_statement
theorem ok_read_statement (F : Fun K "read_statement" "read_statement" s_read_statement f fd) (B : Bl mg) (G : Gc K mg) (C : Cls K mg) (h_parts_many : HasW P w K mg base 3 "parts_many" 1 f_parts_many) (h_read_words : HasW P w K mg base 5 "read_words" 1 f_read_words) : FnOk P w K mg base (CX1 P w) 6 f fd p_read_statement (spW K mg 1 f_read_statement) :=
  fnW_of (k := 5) F sc_read_statement rfl fun cdv A outer s H E hr => (sb_cons (ss_if (st_cmp w_gt (s_callB b_len B.len PySem.boot_len (sa_cons (s_var 0) sa_nil)) (s_gc G.MOST_SIGNS)) (sb_one (ss_raise C.TooGreat)) sb_nil) (sb_cons (ss_set (i := 1) sc_read_statement.nd rfl (Or.inl rfl) (s_def h_read_words hr (by omega) (sa_cons (s_ms PySem.F.slot_str_split PySem.F.type_str_split m_splitW (s_var 0) (sa_cons s_str sa_nil)) sa_nil))) (sb_cons (ss_if (st_cmp w_gt (s_def h_parts_many hr (by omega) (sa_cons (s_var 1) sa_nil)) (s_gc G.MOST_PARTS)) (sb_one (ss_raise C.TooGreat)) sb_nil) (sb_one (ss_ret (s_var 1))))))
noncomputable def g__law_cell : FS := (xSeq (xIf (asB (e2 wEq (eCall bLen (aCons (eVar 0) aNil)) (eC (.int 0)))) (xRet (eC (.int 0))) xNext) (xRet (e2 wIx (eVar 0) (e2 wMod (eVar 1) (eCall bLen (aCons (eVar 0) aNil))))))
noncomputable def f__law_cell : List W → List Cell → R W := runF 2 g__law_cell
theorem ok__law_cell (F : Fun K "_law_cell" "_law_cell" s__law_cell f fd) (B : Bl mg)  : FnOk P w K mg base (CX1 P w) 1 f fd p__law_cell (spW K mg 2 f__law_cell) :=
  fnW_of (k := 0) F sc__law_cell rfl fun cdv A outer s H E hr => (sb_cons (ss_if (st_cmp (w_eq hr) (s_callB b_len B.len PySem.boot_len (sa_cons (s_var 0) sa_nil)) s_int) (sb_one (ss_ret s_int)) sb_nil) (sb_one (ss_ret (s_ix (s_var 0) (s_op w_mod (s_var 1) (s_callB b_len B.len PySem.boot_len (sa_cons (s_var 0) sa_nil)))))))
noncomputable def g__law_mixed : FS := (xSeq (xSet 3 (e2 wMod (e2 wMulA (e2 wAdd (e2 wAdd (e2 wAdd (eVar 0) (e2 wMulA (e2 wMulA (eC (.int 7)) (eVar 1)) (eVar 1))) (e2 wMulA (eC (.int 13)) (eVar 1))) (eVar 2)) (eC (.int 69621))) (eC (.int 2147483647)))) (xRet (e2 wMod (e2 wMulA (e2 wMod (e2 wAdd (e2 wAdd (e2 wMulA (eVar 3) (e2 wAdd (e2 wFdiv (eVar 3) (eC (.int 1009))) (eC (.int 3)))) (e2 wMulA (eC (.int 31)) (eVar 1))) (eVar 2)) (eC (.int 2147483629))) (eC (.int 48271))) (eC (.int 1000000007)))))
noncomputable def f__law_mixed : List W → List Cell → R W := runF 4 g__law_mixed
theorem ok__law_mixed (F : Fun K "_law_mixed" "_law_mixed" s__law_mixed f fd)   : FnOk P w K mg base (CX1 P w) 1 f fd p__law_mixed (spW K mg 3 f__law_mixed) :=
  fnW_of (k := 0) F sc__law_mixed rfl fun cdv A outer s H E hr => (sb_cons (ss_set (i := 3) sc__law_mixed.nd rfl (Or.inl rfl) (s_op w_mod (s_op w_mulA (s_op w_add (s_op w_add (s_op w_add (s_var 0) (s_op w_mulA (s_op w_mulA s_int (s_var 1)) (s_var 1))) (s_op w_mulA s_int (s_var 1))) (s_var 2)) s_int) s_int)) (sb_one (ss_ret (s_op w_mod (s_op w_mulA (s_op w_mod (s_op w_add (s_op w_add (s_op w_mulA (s_var 3) (s_op w_add (s_op w_fdiv (s_var 3) s_int) s_int)) (s_op w_mulA s_int (s_var 1))) (s_var 2)) s_int) s_int) s_int))))
noncomputable def g__law_draws : FS := (xSeq (xSet 3 (eLst aNil)) (xSeq (xSet 4 (eC (.int 0))) (xSeq (xIf (asB (e2 wGe (eVar 0) (e2 wPow (eC (.int 10)) (eC (.int 18))))) (xSet 4 (eVar 0)) xNext) (xSeq (xFor (itRange1 (aCons (eVar 1) aNil)) (gNm 5) (xIf (asB (e2 wGt (eVar 4) (eC (.int 0)))) (xSeq (xExpr (eML mAppend (eVar 3) (aCons (e2 wMod (eVar 4) (eC (.int 64))) aNil))) (xSet 4 (e2 wFdiv (eVar 4) (eC (.int 64))))) (xExpr (eML mAppend (eVar 3) (aCons (eDef 3 f__law_mixed (aCons (eVar 0) (aCons (eVar 5) (aCons (eVar 2) aNil)))) aNil))))) (xRet (eVar 3))))))
noncomputable def f__law_draws : List W → List Cell → R W := runF 6 g__law_draws
theorem ok__law_draws (F : Fun K "_law_draws" "_law_draws" s__law_draws f fd) (B : Bl mg) (h__law_mixed : HasW P w K mg base 1 "_law_mixed" 3 f__law_mixed) : FnOk P w K mg base (CX1 P w) 2 f fd p__law_draws (spW K mg 3 f__law_draws) :=
  fnW_of (k := 1) F sc__law_draws rfl fun cdv A outer s H E hr => (sb_cons (ss_set (i := 3) sc__law_draws.nd rfl (Or.inl rfl) (s_lst sa_nil)) (sb_cons (ss_set (i := 4) sc__law_draws.nd rfl (Or.inl rfl) s_int) (sb_cons (ss_if (st_cmp w_ge (s_var 0) (s_op w_pow s_int s_int)) (sb_one (ss_set (i := 4) sc__law_draws.nd rfl (Or.inl rfl) (s_var 0))) sb_nil) (sb_cons (ss_for (si_range1 B.range (sa_cons (s_var 1) sa_nil)) (sg_name (i := 5) sc__law_draws.nd rfl (Or.inl rfl)) (sb_one (ss_if (st_cmp w_gt (s_var 4) s_int) (sb_cons (ss_expr (s_ml PySem.F.slot_list_append PySem.F.type_list_append m_appendW (s_var 3) (sa_cons (s_op w_mod (s_var 4) s_int) sa_nil))) (sb_one (ss_set (i := 4) sc__law_draws.nd rfl (Or.inl rfl) (s_op w_fdiv (s_var 4) s_int)))) (sb_one (ss_expr (s_ml PySem.F.slot_list_append PySem.F.type_list_append m_appendW (s_var 3) (sa_cons (s_def h__law_mixed hr (by omega) (sa_cons (s_var 0) (sa_cons (s_var 5) (sa_cons (s_var 2) sa_nil)))) sa_nil))))))) (sb_one (ss_ret (s_var 3)))))))
noncomputable def g__law_pool : FS := (xSeq (xSet 3 (eC (.str [65, 66, 67, 68, 69, 70, 71, 72, 73, 74, 75, 76, 77, 78, 79, 80, 81, 82, 83, 84, 85, 86, 87, 88, 89, 90, 97, 98, 99, 100, 101, 102, 103, 104, 105, 106, 107, 108, 109, 110, 111, 112, 113, 114, 115, 116, 117, 118, 119, 120, 121, 122]))) (xSeq (xSet 4 (eC (.str []))) (xSeq (xFor (itAny (eDef 3 f__law_draws (aCons (eVar 0) (aCons (eVar 1) (aCons (eVar 2) aNil))))) (gNm 5) (xSeq (xSet 6 (e2 wMod (eVar 5) (eCall bLen (aCons (eVar 3) aNil)))) (xSeq (xSet 4 (e2 wAdd (eVar 4) (e2 wIx (eVar 3) (eVar 6)))) (xSet 3 (e2 wAdd (eSl (eVar 3) oNone (oSome (eVar 6))) (eSl (eVar 3) (oSome (e2 wAdd (eVar 6) (eC (.int 1)))) oNone)))))) (xRet (eVar 4)))))
noncomputable def f__law_pool : List W → List Cell → R W := runF 7 g__law_pool
theorem ok__law_pool (F : Fun K "_law_pool" "_law_pool" s__law_pool f fd) (B : Bl mg) (h__law_draws : HasW P w K mg base 2 "_law_draws" 3 f__law_draws) : FnOk P w K mg base (CX1 P w) 3 f fd p__law_pool (spW K mg 3 f__law_pool) :=
  fnW_of (k := 2) F sc__law_pool rfl fun cdv A outer s H E hr => (sb_cons (ss_set (i := 3) sc__law_pool.nd rfl (Or.inl rfl) s_str) (sb_cons (ss_set (i := 4) sc__law_pool.nd rfl (Or.inl rfl) s_str) (sb_cons (ss_for (si_any (s_def h__law_draws hr (by omega) (sa_cons (s_var 0) (sa_cons (s_var 1) (sa_cons (s_var 2) sa_nil))))) (sg_name (i := 5) sc__law_pool.nd rfl (Or.inl rfl)) (sb_cons (ss_set (i := 6) sc__law_pool.nd rfl (Or.inl rfl) (s_op w_mod (s_var 5) (s_callB b_len B.len PySem.boot_len (sa_cons (s_var 3) sa_nil)))) (sb_cons (ss_set (i := 4) sc__law_pool.nd rfl (Or.inl rfl) (s_op w_add (s_var 4) (s_ix (s_var 3) (s_var 6)))) (sb_one (ss_set (i := 3) sc__law_pool.nd rfl (Or.inl rfl) (s_op w_add (s_sl (s_var 3) so_none (so_some (s_var 6))) (s_sl (s_var 3) (so_some (s_op w_add (s_var 6) s_int)) so_none))))))) (sb_one (ss_ret (s_var 4))))))
noncomputable def g__law_built : FS := (xSeq (xSet 3 (eLst (wStrs [[105, 110], [111, 110, 101], [108, 101, 102, 116], [114, 105, 103, 104, 116], [98, 101, 108, 111, 119], [110, 111, 116], [115, 111, 109, 101], [97, 108, 108], [97, 110, 100], [111, 114]]))) (xSeq (xSet 4 (eLst aNil)) (xSeq (xSet 5 (eC (.int 0))) (xSeq (xFor (itRange1 (aCons (eVar 1) aNil)) (gNm 6) (xSeq (xSet 7 (e2 wMod (e2 wIx (eVar 0) (e2 wMulA (eC (.int 3)) (eVar 6))) (eC (.int 10)))) (xSeq (xSet 8 (e2 wIx (eVar 2) (e2 wMod (e2 wIx (eVar 0) (e2 wAdd (e2 wMulA (eC (.int 3)) (eVar 6)) (eC (.int 1)))) (eCall bLen (aCons (eVar 2) aNil))))) (xSeq (xSet 9 (e2 wIx (eVar 2) (e2 wMod (e2 wIx (eVar 0) (e2 wAdd (e2 wMulA (eC (.int 3)) (eVar 6)) (eC (.int 2)))) (eCall bLen (aCons (eVar 2) aNil))))) (xIf (bnd (asB (e2 wGe (eVar 7) (eC (.int 8)))) (asB (e2 wGt (eCall bLen (aCons (eVar 4) aNil)) (eC (.int 1))))) (xSeq (xSet 10 (eML mPop (eVar 4) aNil)) (xSeq (xPut (eVar 4) (eNeg (eC (.int 1))) (eTup (aCons (e2 wIx (eVar 3) (eVar 7)) (aCons (e2 wIx (eVar 4) (eNeg (eC (.int 1)))) (aCons (eVar 10) aNil)))) wSetL) (xSet 5 (e2 wAdd (eVar 5) (eC (.int 1)))))) (xIf (bnd (asB (e2 (wIn false) (eVar 7) (eTup (aCons (eC (.int 5)) (aCons (eC (.int 6)) (aCons (eC (.int 7)) aNil)))))) (asB (e2 wGt (eCall bLen (aCons (eVar 4) aNil)) (eC (.int 0))))) (xIf (asB (e2 wLeD (e2 wAdd (eVar 5) (eCall bLen (aCons (eVar 4) aNil))) (eC (.int 30)))) (xSeq (xSet 11 (eML mPop (eVar 4) aNil)) (xSeq (xIf (asB (e2 wEq (eVar 7) (eC (.int 5)))) (xExpr (eML mAppend (eVar 4) (aCons (eTup (aCons (eC (.str [110, 111, 116])) (aCons (eVar 11) aNil))) aNil))) (xExpr (eML mAppend (eVar 4) (aCons (eTup (aCons (e2 wIx (eVar 3) (eVar 7)) (aCons (eVar 8) (aCons (eVar 11) aNil)))) aNil)))) (xSet 5 (e2 wAdd (eVar 5) (eC (.int 1)))))) xNext) (xIf (asB (e2 wLeD (e2 wAdd (e2 wAdd (eVar 5) (eCall bLen (aCons (eVar 4) aNil))) (eC (.int 1))) (eC (.int 30)))) (xSeq (xIf (asB (e2 wEq (e2 wMod (eVar 7) (eC (.int 5))) (eC (.int 1)))) (xExpr (eML mAppend (eVar 4) (aCons (eTup (aCons (eC (.str [111, 110, 101])) (aCons (eVar 8) aNil))) aNil))) (xExpr (eML mAppend (eVar 4) (aCons (eTup (aCons (e2 wIx (eVar 3) (e2 wMod (eVar 7) (eC (.int 5)))) (aCons (eVar 8) (aCons (eVar 9) aNil)))) aNil)))) (xSet 5 (e2 wAdd (eVar 5) (eC (.int 1))))) xNext))))))) (xSeq (xWhile (asB (e2 wGt (eCall bLen (aCons (eVar 4) aNil)) (eC (.int 1)))) (xSeq (xSet 10 (eML mPop (eVar 4) aNil)) (xPut (eVar 4) (eNeg (eC (.int 1))) (eTup (aCons (e2 wIx (eVar 3) (e2 wAdd (eC (.int 8)) (e2 wMod (eCall bLen (aCons (eVar 4) aNil)) (eC (.int 2))))) (aCons (e2 wIx (eVar 4) (eNeg (eC (.int 1)))) (aCons (eVar 10) aNil)))) wSetL))) (xRet (e2 wIx (eVar 4) (eC (.int 0)))))))))
noncomputable def f__law_built : List W → List Cell → R W := runF 12 g__law_built
theorem ok__law_built (F : Fun K "_law_built" "_law_built" s__law_built f fd) (B : Bl mg)  : FnOk P w K mg base (CX1 P w) 1 f fd p__law_built (spW K mg 3 f__law_built) :=
  fnW_of (k := 0) F sc__law_built rfl fun cdv A outer s H E hr => (sb_cons (ss_set (i := 3) sc__law_built.nd rfl (Or.inl rfl) (s_lst (sa_strs (.cons (.cons (.cons (.cons (.cons (.cons (.cons (.cons (.cons (.cons .nil))))))))))))) (sb_cons (ss_set (i := 4) sc__law_built.nd rfl (Or.inl rfl) (s_lst sa_nil)) (sb_cons (ss_set (i := 5) sc__law_built.nd rfl (Or.inl rfl) s_int) (sb_cons (ss_for (si_range1 B.range (sa_cons (s_var 1) sa_nil)) (sg_name (i := 6) sc__law_built.nd rfl (Or.inl rfl)) (sb_cons (ss_set (i := 7) sc__law_built.nd rfl (Or.inl rfl) (s_op w_mod (s_ix (s_var 0) (s_op w_mulA s_int (s_var 6))) s_int)) (sb_cons (ss_set (i := 8) sc__law_built.nd rfl (Or.inl rfl) (s_ix (s_var 2) (s_op w_mod (s_ix (s_var 0) (s_op w_add (s_op w_mulA s_int (s_var 6)) s_int)) (s_callB b_len B.len PySem.boot_len (sa_cons (s_var 2) sa_nil))))) (sb_cons (ss_set (i := 9) sc__law_built.nd rfl (Or.inl rfl) (s_ix (s_var 2) (s_op w_mod (s_ix (s_var 0) (s_op w_add (s_op w_mulA s_int (s_var 6)) s_int)) (s_callB b_len B.len PySem.boot_len (sa_cons (s_var 2) sa_nil))))) (sb_one (ss_if (st_w (sw_and (st_cmp w_ge (s_var 7) s_int) (sw_and1 (st_cmp w_gt (s_callB b_len B.len PySem.boot_len (sa_cons (s_var 4) sa_nil)) s_int)))) (sb_cons (ss_set (i := 10) sc__law_built.nd rfl (Or.inl rfl) (s_ml0 PySem.F.slot_list_pop PySem.F.type_list_pop m_popW (s_var 4))) (sb_cons (ss_put w_setL (s_tup (sa_cons (s_ix (s_var 3) (s_var 7)) (sa_cons (s_ix (s_var 4) (s_neg s_int)) (sa_cons (s_var 10) sa_nil)))) (s_var 4) (s_neg s_int)) (sb_one (ss_set (i := 5) sc__law_built.nd rfl (Or.inl rfl) (s_op w_add (s_var 5) s_int))))) (sb_one (ss_if (st_w (sw_and (st_cmp (w_in hr) (s_var 7) (s_tup (sa_cons s_int (sa_cons s_int (sa_cons s_int sa_nil))))) (sw_and1 (st_cmp w_gt (s_callB b_len B.len PySem.boot_len (sa_cons (s_var 4) sa_nil)) s_int)))) (sb_one (ss_if (st_cmp w_leD (s_op w_add (s_var 5) (s_callB b_len B.len PySem.boot_len (sa_cons (s_var 4) sa_nil))) s_int) (sb_cons (ss_set (i := 11) sc__law_built.nd rfl (Or.inl rfl) (s_ml0 PySem.F.slot_list_pop PySem.F.type_list_pop m_popW (s_var 4))) (sb_cons (ss_if (st_cmp (w_eq hr) (s_var 7) s_int) (sb_one (ss_expr (s_ml PySem.F.slot_list_append PySem.F.type_list_append m_appendW (s_var 4) (sa_cons (s_tup (sa_cons s_str (sa_cons (s_var 11) sa_nil))) sa_nil)))) (sb_one (ss_expr (s_ml PySem.F.slot_list_append PySem.F.type_list_append m_appendW (s_var 4) (sa_cons (s_tup (sa_cons (s_ix (s_var 3) (s_var 7)) (sa_cons (s_var 8) (sa_cons (s_var 11) sa_nil)))) sa_nil))))) (sb_one (ss_set (i := 5) sc__law_built.nd rfl (Or.inl rfl) (s_op w_add (s_var 5) s_int))))) sb_nil)) (sb_one (ss_if (st_cmp w_leD (s_op w_add (s_op w_add (s_var 5) (s_callB b_len B.len PySem.boot_len (sa_cons (s_var 4) sa_nil))) s_int) s_int) (sb_cons (ss_if (st_cmp (w_eq hr) (s_op w_mod (s_var 7) s_int) s_int) (sb_one (ss_expr (s_ml PySem.F.slot_list_append PySem.F.type_list_append m_appendW (s_var 4) (sa_cons (s_tup (sa_cons s_str (sa_cons (s_var 8) sa_nil))) sa_nil)))) (sb_one (ss_expr (s_ml PySem.F.slot_list_append PySem.F.type_list_append m_appendW (s_var 4) (sa_cons (s_tup (sa_cons (s_ix (s_var 3) (s_op w_mod (s_var 7) s_int)) (sa_cons (s_var 8) (sa_cons (s_var 9) sa_nil)))) sa_nil))))) (sb_one (ss_set (i := 5) sc__law_built.nd rfl (Or.inl rfl) (s_op w_add (s_var 5) s_int)))) sb_nil)))))))))) (sb_cons (ss_while (st_cmp w_gt (s_callB b_len B.len PySem.boot_len (sa_cons (s_var 4) sa_nil)) s_int) (sb_cons (ss_set (i := 10) sc__law_built.nd rfl (Or.inl rfl) (s_ml0 PySem.F.slot_list_pop PySem.F.type_list_pop m_popW (s_var 4))) (sb_one (ss_put w_setL (s_tup (sa_cons (s_ix (s_var 3) (s_op w_add s_int (s_op w_mod (s_callB b_len B.len PySem.boot_len (sa_cons (s_var 4) sa_nil)) s_int))) (sa_cons (s_ix (s_var 4) (s_neg s_int)) (sa_cons (s_var 10) sa_nil)))) (s_var 4) (s_neg s_int))))) (sb_one (ss_ret (s_ix (s_var 4) s_int))))))))
noncomputable def g__law_one_of : FS := (xSeq (xSet 2 (eDef 3 f__law_draws (aCons (eDef 2 f__law_cell (aCons (eVar 0) (aCons (eVar 1) aNil))) (aCons (eC (.int 2)) (aCons (e2 wAdd (eC (.int 100003)) (e2 wMulA (eC (.int 500)) (eVar 1))) aNil))))) (xSeq (xSet 3 (eDef 3 f__law_pool (aCons (eDef 2 f__law_cell (aCons (eVar 0) (aCons (e2 wAdd (eVar 1) (eC (.int 1))) aNil))) (aCons (e2 wAdd (eC (.int 1)) (e2 wMod (e2 wIx (eVar 2) (eC (.int 0))) (eC (.int 8)))) (aCons (e2 wAdd (eC (.int 200017)) (e2 wMulA (eC (.int 500)) (eVar 1))) aNil))))) (xSeq (xSet 4 (eDef 3 f__law_draws (aCons (eDef 2 f__law_cell (aCons (eVar 0) (aCons (e2 wAdd (eVar 1) (eC (.int 2))) aNil))) (aCons (eC (.int 45)) (aCons (e2 wAdd (eC (.int 300007)) (e2 wMulA (eC (.int 500)) (eVar 1))) aNil))))) (xSeq (xSet 4 (e2 wAdd (eVar 4) (eDef 3 f__law_draws (aCons (eDef 2 f__law_cell (aCons (eVar 0) (aCons (e2 wAdd (eVar 1) (eC (.int 3))) aNil))) (aCons (eC (.int 45)) (aCons (e2 wAdd (eC (.int 400009)) (e2 wMulA (eC (.int 500)) (eVar 1))) aNil)))))) (xRet (eDef 3 f__law_built (aCons (eVar 4) (aCons (e2 wAdd (eC (.int 1)) (e2 wMod (e2 wIx (eVar 2) (eC (.int 1))) (eC (.int 30)))) (aCons (eVar 3) aNil)))))))))
noncomputable def f__law_one_of : List W → List Cell → R W := runF 5 g__law_one_of
theorem ok__law_one_of (F : Fun K "_law_one_of" "_law_one_of" s__law_one_of f fd)  (h__law_built : HasW P w K mg base 1 "_law_built" 3 f__law_built) (h__law_cell : HasW P w K mg base 1 "_law_cell" 2 f__law_cell) (h__law_draws : HasW P w K mg base 2 "_law_draws" 3 f__law_draws) (h__law_pool : HasW P w K mg base 3 "_law_pool" 3 f__law_pool) : FnOk P w K mg base (CX1 P w) 4 f fd p__law_one_of (spW K mg 2 f__law_one_of) :=
  fnW_of (k := 3) F sc__law_one_of rfl fun cdv A outer s H E hr => (sb_cons (ss_set (i := 2) sc__law_one_of.nd rfl (Or.inl rfl) (s_def h__law_draws hr (by omega) (sa_cons (s_def h__law_cell hr (by omega) (sa_cons (s_var 0) (sa_cons (s_var 1) sa_nil))) (sa_cons s_int (sa_cons (s_op w_add s_int (s_op w_mulA s_int (s_var 1))) sa_nil))))) (sb_cons (ss_set (i := 3) sc__law_one_of.nd rfl (Or.inl rfl) (s_def h__law_pool hr (by omega) (sa_cons (s_def h__law_cell hr (by omega) (sa_cons (s_var 0) (sa_cons (s_op w_add (s_var 1) s_int) sa_nil))) (sa_cons (s_op w_add s_int (s_op w_mod (s_ix (s_var 2) s_int) s_int)) (sa_cons (s_op w_add s_int (s_op w_mulA s_int (s_var 1))) sa_nil))))) (sb_cons (ss_set (i := 4) sc__law_one_of.nd rfl (Or.inl rfl) (s_def h__law_draws hr (by omega) (sa_cons (s_def h__law_cell hr (by omega) (sa_cons (s_var 0) (sa_cons (s_op w_add (s_var 1) s_int) sa_nil))) (sa_cons s_int (sa_cons (s_op w_add s_int (s_op w_mulA s_int (s_var 1))) sa_nil))))) (sb_cons (ss_set (i := 4) sc__law_one_of.nd rfl (Or.inl rfl) (s_op w_add (s_var 4) (s_def h__law_draws hr (by omega) (sa_cons (s_def h__law_cell hr (by omega) (sa_cons (s_var 0) (sa_cons (s_op w_add (s_var 1) s_int) sa_nil))) (sa_cons s_int (sa_cons (s_op w_add s_int (s_op w_mulA s_int (s_var 1))) sa_nil)))))) (sb_one (ss_ret (s_def h__law_built hr (by omega) (sa_cons (s_var 4) (sa_cons (s_op w_add s_int (s_op w_mod (s_ix (s_var 2) s_int) s_int)) (sa_cons (s_var 3) sa_nil))))))))))
noncomputable def g__law_written (r__law_written : List W → List Cell → R W) : FS := (xSeq (xIf (asB (e2 wEq (e2 wIx (eVar 0) (eC (.int 0))) (eC (.str [110, 111, 116])))) (xRet (e2 wAdd (eC (.str [110, 111, 116, 32])) (eDef 1 r__law_written (aCons (e2 wIx (eVar 0) (eC (.int 1))) aNil)))) xNext) (xSeq (xIf (bor (asB (e2 wEq (e2 wIx (eVar 0) (eC (.int 0))) (eC (.str [97, 110, 100])))) (asB (e2 wEq (e2 wIx (eVar 0) (eC (.int 0))) (eC (.str [111, 114]))))) (xRet (e2 wAdd (e2 wAdd (e2 wAdd (e2 wAdd (e2 wAdd (e2 wAdd (eC (.str [40, 32])) (eDef 1 r__law_written (aCons (e2 wIx (eVar 0) (eC (.int 1))) aNil))) (eC (.str [32]))) (e2 wIx (eVar 0) (eC (.int 0)))) (eC (.str [32]))) (eDef 1 r__law_written (aCons (e2 wIx (eVar 0) (eC (.int 2))) aNil))) (eC (.str [32, 41])))) xNext) (xSeq (xIf (bor (asB (e2 wEq (e2 wIx (eVar 0) (eC (.int 0))) (eC (.str [115, 111, 109, 101])))) (asB (e2 wEq (e2 wIx (eVar 0) (eC (.int 0))) (eC (.str [97, 108, 108]))))) (xRet (e2 wAdd (e2 wAdd (e2 wAdd (e2 wAdd (e2 wIx (eVar 0) (eC (.int 0))) (eC (.str [32]))) (e2 wIx (eVar 0) (eC (.int 1)))) (eC (.str [32]))) (eDef 1 r__law_written (aCons (e2 wIx (eVar 0) (eC (.int 2))) aNil)))) xNext) (xSeq (xIf (asB (e2 wEq (e2 wIx (eVar 0) (eC (.int 0))) (eC (.str [111, 110, 101])))) (xRet (e2 wAdd (eC (.str [111, 110, 101, 32])) (e2 wIx (eVar 0) (eC (.int 1))))) xNext) (xRet (e2 wAdd (e2 wAdd (e2 wAdd (e2 wAdd (e2 wIx (eVar 0) (eC (.int 1))) (eC (.str [32]))) (e2 wIx (eVar 0) (eC (.int 0)))) (eC (.str [32]))) (e2 wIx (eVar 0) (eC (.int 2)))))))))
noncomputable def f__law_written : Nat → List W → List Cell → R W
  | 0 => fun _ _ => .bad
  | k + 1 => runF 1 (g__law_written (f__law_written k))
theorem has__law_written {fa__law_written : Addr} {fd__law_written : FuncData} (F__law_written : Fun K "_law_written" "_law_written" s__law_written fa__law_written fd__law_written) (m__law_written : mg "_law_written" = some (.ref fa__law_written))   : ∀ k : Nat, HasW P w K mg base (0 + k) "_law_written" 1 (f__law_written k)
  | 0 => hasW_bad (ps := p__law_written) F__law_written m__law_written rfl (fun _ _ _ _ _ _ us hl => match us, hl with | [_], _ => rfl)
  | k + 1 => by
    have h__law_written := has__law_written F__law_written m__law_written   k
    exact hasW_mk (ps := p__law_written) F__law_written m__law_written rfl (fun _ _ _ _ _ _ us hl => match us, hl with | [_], _ => rfl) (fnW_of (k := 0 + k) F__law_written sc__law_written rfl fun cdv A outer s H E hr => (sb_cons (ss_if (st_cmp (w_eq hr) (s_ix (s_var 0) s_int) s_str) (sb_one (ss_ret (s_op w_add s_str (s_def h__law_written hr (by omega) (sa_cons (s_ix (s_var 0) s_int) sa_nil))))) sb_nil) (sb_cons (ss_if (st_w (sw_or (st_cmp (w_eq hr) (s_ix (s_var 0) s_int) s_str) (sw_or1 (st_cmp (w_eq hr) (s_ix (s_var 0) s_int) s_str)))) (sb_one (ss_ret (s_op w_add (s_op w_add (s_op w_add (s_op w_add (s_op w_add (s_op w_add s_str (s_def h__law_written hr (by omega) (sa_cons (s_ix (s_var 0) s_int) sa_nil))) s_str) (s_ix (s_var 0) s_int)) s_str) (s_def h__law_written hr (by omega) (sa_cons (s_ix (s_var 0) s_int) sa_nil))) s_str))) sb_nil) (sb_cons (ss_if (st_w (sw_or (st_cmp (w_eq hr) (s_ix (s_var 0) s_int) s_str) (sw_or1 (st_cmp (w_eq hr) (s_ix (s_var 0) s_int) s_str)))) (sb_one (ss_ret (s_op w_add (s_op w_add (s_op w_add (s_op w_add (s_ix (s_var 0) s_int) s_str) (s_ix (s_var 0) s_int)) s_str) (s_def h__law_written hr (by omega) (sa_cons (s_ix (s_var 0) s_int) sa_nil))))) sb_nil) (sb_cons (ss_if (st_cmp (w_eq hr) (s_ix (s_var 0) s_int) s_str) (sb_one (ss_ret (s_op w_add s_str (s_ix (s_var 0) s_int)))) sb_nil) (sb_one (ss_ret (s_op w_add (s_op w_add (s_op w_add (s_op w_add (s_ix (s_var 0) s_int) s_str) (s_ix (s_var 0) s_int)) s_str) (s_ix (s_var 0) s_int)))))))))
noncomputable def g__law_letter_at : FS := (xSeq (xIf (bor (asB (e2 wGe (eVar 1) (eCall bLen (aCons (eVar 0) aNil)))) (asB (e2 wNe (eCall bLen (aCons (e2 wIx (eVar 0) (eVar 1)) aNil)) (eC (.int 1))))) (xRet (eC (.bl false))) xNext) (xRet (e2 (wIn false) (e2 wIx (eVar 0) (eVar 1)) (eC (.str [65, 66, 67, 68, 69, 70, 71, 72, 73, 74, 75, 76, 77, 78, 79, 80, 81, 82, 83, 84, 85, 86, 87, 88, 89, 90, 97, 98, 99, 100, 101, 102, 103, 104, 105, 106, 107, 108, 109, 110, 111, 112, 113, 114, 115, 116, 117, 118, 119, 120, 121, 122])))))
noncomputable def f__law_letter_at : List W → List Cell → R W := runF 2 g__law_letter_at
theorem ok__law_letter_at (F : Fun K "_law_letter_at" "_law_letter_at" s__law_letter_at f fd) (B : Bl mg)  : FnOk P w K mg base (CX1 P w) 1 f fd p__law_letter_at (spW K mg 2 f__law_letter_at) :=
  fnW_of (k := 0) F sc__law_letter_at rfl fun cdv A outer s H E hr => (sb_cons (ss_if (st_w (sw_or (st_cmp w_ge (s_var 1) (s_callB b_len B.len PySem.boot_len (sa_cons (s_var 0) sa_nil))) (sw_or1 (st_cmp (w_ne hr) (s_callB b_len B.len PySem.boot_len (sa_cons (s_ix (s_var 0) (s_var 1)) sa_nil)) s_int)))) (sb_one (ss_ret s_bl)) sb_nil) (sb_one (ss_ret (s_cmp (w_in hr) (s_ix (s_var 0) (s_var 1)) s_str))))
noncomputable def g__law_joint (r__law_joint : List W → List Cell → R W) (r__law_parsed : List W → List Cell → R W) : FS := (xSeq (xSet 2 (eDef 2 r__law_parsed (aCons (eVar 0) (aCons (e2 wAdd (eVar 1) (eC (.int 1))) aNil)))) (xSeq (xIf (bor (asB (eIsN (eVar 2))) (bor (asB (e2 wGe (e2 wIx (eVar 2) (eC (.int 1))) (eCall bLen (aCons (eVar 0) aNil)))) (asB (e2 (wIn true) (e2 wIx (eVar 0) (e2 wIx (eVar 2) (eC (.int 1)))) (eTup (aCons (eC (.str [97, 110, 100])) (aCons (eC (.str [111, 114])) aNil))))))) (xRet (eC .non)) xNext) (xSeq (xSet 3 (eDef 2 r__law_parsed (aCons (eVar 0) (aCons (e2 wAdd (e2 wIx (eVar 2) (eC (.int 1))) (eC (.int 1))) aNil)))) (xSeq (xIf (bor (asB (eIsN (eVar 3))) (bor (asB (e2 wGe (e2 wIx (eVar 3) (eC (.int 1))) (eCall bLen (aCons (eVar 0) aNil)))) (asB (e2 wNe (e2 wIx (eVar 0) (e2 wIx (eVar 3) (eC (.int 1)))) (eC (.str [41])))))) (xRet (eC .non)) xNext) (xRet (eTup (aCons (eTup (aCons (e2 wIx (eVar 0) (e2 wIx (eVar 2) (eC (.int 1)))) (aCons (e2 wIx (eVar 2) (eC (.int 0))) (aCons (e2 wIx (eVar 3) (eC (.int 0))) aNil)))) (aCons (e2 wAdd (e2 wIx (eVar 3) (eC (.int 1))) (eC (.int 1))) aNil))))))))
noncomputable def g__law_parsed (r__law_joint : List W → List Cell → R W) (r__law_parsed : List W → List Cell → R W) : FS := (xSeq (xIf (asB (e2 wGe (eVar 1) (eCall bLen (aCons (eVar 0) aNil)))) (xRet (eC .non)) xNext) (xSeq (xSet 2 (e2 wIx (eVar 0) (eVar 1))) (xSeq (xIf (asB (e2 wEq (eVar 2) (eC (.str [40])))) (xRet (eDef 2 r__law_joint (aCons (eVar 0) (aCons (eVar 1) aNil)))) xNext) (xSeq (xIf (asB (e2 wEq (eVar 2) (eC (.str [110, 111, 116])))) (xSeq (xSet 3 (eDef 2 r__law_parsed (aCons (eVar 0) (aCons (e2 wAdd (eVar 1) (eC (.int 1))) aNil)))) (xSeq (xIf (asB (eIsN (eVar 3))) (xRet (eC .non)) xNext) (xRet (eTup (aCons (eTup (aCons (eC (.str [110, 111, 116])) (aCons (e2 wIx (eVar 3) (eC (.int 0))) aNil))) (aCons (e2 wIx (eVar 3) (eC (.int 1))) aNil)))))) xNext) (xSeq (xIf (bor (asB (e2 wEq (eVar 2) (eC (.str [115, 111, 109, 101])))) (asB (e2 wEq (eVar 2) (eC (.str [97, 108, 108]))))) (xSeq (xSet 3 (eDef 2 r__law_parsed (aCons (eVar 0) (aCons (e2 wAdd (eVar 1) (eC (.int 2))) aNil)))) (xSeq (xIf (bor (asB (eIsN (eVar 3))) (bnt (asB (eDef 2 f__law_letter_at (aCons (eVar 0) (aCons (e2 wAdd (eVar 1) (eC (.int 1))) aNil)))))) (xRet (eC .non)) xNext) (xRet (eTup (aCons (eTup (aCons (eVar 2) (aCons (e2 wIx (eVar 0) (e2 wAdd (eVar 1) (eC (.int 1)))) (aCons (e2 wIx (eVar 3) (eC (.int 0))) aNil)))) (aCons (e2 wIx (eVar 3) (eC (.int 1))) aNil)))))) xNext) (xSeq (xIf (asB (e2 wEq (eVar 2) (eC (.str [111, 110, 101])))) (xSeq (xIf (bnt (asB (eDef 2 f__law_letter_at (aCons (eVar 0) (aCons (e2 wAdd (eVar 1) (eC (.int 1))) aNil))))) (xRet (eC .non)) xNext) (xRet (eTup (aCons (eTup (aCons (eC (.str [111, 110, 101])) (aCons (e2 wIx (eVar 0) (e2 wAdd (eVar 1) (eC (.int 1)))) aNil))) (aCons (e2 wAdd (eVar 1) (eC (.int 2))) aNil))))) xNext) (xSeq (xIf (bor (bnt (asB (eDef 2 f__law_letter_at (aCons (eVar 0) (aCons (eVar 1) aNil))))) (bnt (asB (eDef 2 f__law_letter_at (aCons (eVar 0) (aCons (e2 wAdd (eVar 1) (eC (.int 2))) aNil)))))) (xRet (eC .non)) xNext) (xSeq (xIf (asB (e2 (wIn true) (e2 wIx (eVar 0) (e2 wAdd (eVar 1) (eC (.int 1)))) (eTup (wStrs [[105, 110], [108, 101, 102, 116], [114, 105, 103, 104, 116], [98, 101, 108, 111, 119]])))) (xRet (eC .non)) xNext) (xRet (eTup (aCons (eTup (aCons (e2 wIx (eVar 0) (e2 wAdd (eVar 1) (eC (.int 1)))) (aCons (eVar 2) (aCons (e2 wIx (eVar 0) (e2 wAdd (eVar 1) (eC (.int 2)))) aNil)))) (aCons (e2 wAdd (eVar 1) (eC (.int 3))) aNil))))))))))))
noncomputable def fs__law_joint__law_parsed : Nat → (List W → List Cell → R W) × (List W → List Cell → R W)
  | 0 => (fun _ _ => .bad, fun _ _ => .bad)
  | k + 1 => (runF 4 (g__law_joint (fs__law_joint__law_parsed k).1 (fs__law_joint__law_parsed k).2), runF 4 (g__law_parsed (fs__law_joint__law_parsed k).1 (fs__law_joint__law_parsed k).2))
noncomputable def f__law_joint (k : Nat) : List W → List Cell → R W := (fs__law_joint__law_parsed k).1
noncomputable def f__law_parsed (k : Nat) : List W → List Cell → R W := (fs__law_joint__law_parsed k).2
theorem has__law_joint__law_parsed {fa__law_joint : Addr} {fd__law_joint : FuncData} (F__law_joint : Fun K "_law_joint" "_law_joint" s__law_joint fa__law_joint fd__law_joint) (m__law_joint : mg "_law_joint" = some (.ref fa__law_joint)) {fa__law_parsed : Addr} {fd__law_parsed : FuncData} (F__law_parsed : Fun K "_law_parsed" "_law_parsed" s__law_parsed fa__law_parsed fd__law_parsed) (m__law_parsed : mg "_law_parsed" = some (.ref fa__law_parsed)) (B : Bl mg) (h__law_letter_at : HasW P w K mg base 1 "_law_letter_at" 2 f__law_letter_at) : ∀ k : Nat, HasW P w K mg base (1 + k) "_law_joint" 2 (f__law_joint k) ∧ HasW P w K mg base (1 + k) "_law_parsed" 2 (f__law_parsed k)
  | 0 => ⟨hasW_bad (ps := p__law_joint) F__law_joint m__law_joint rfl (fun _ _ _ _ _ _ us hl => match us, hl with | [_, _], _ => rfl), hasW_bad (ps := p__law_parsed) F__law_parsed m__law_parsed rfl (fun _ _ _ _ _ _ us hl => match us, hl with | [_, _], _ => rfl)⟩
  | k + 1 => by
    obtain ⟨h__law_joint, h__law_parsed⟩ := has__law_joint__law_parsed F__law_joint m__law_joint F__law_parsed m__law_parsed B h__law_letter_at k
    exact ⟨hasW_mk (ps := p__law_joint) F__law_joint m__law_joint rfl (fun _ _ _ _ _ _ us hl => match us, hl with | [_, _], _ => rfl) (fnW_of (k := 1 + k) F__law_joint sc__law_joint rfl fun cdv A outer s H E hr => (sb_cons (ss_set (i := 2) sc__law_joint.nd rfl (Or.inl rfl) (s_def h__law_parsed hr (by omega) (sa_cons (s_var 0) (sa_cons (s_op w_add (s_var 1) s_int) sa_nil)))) (sb_cons (ss_if (st_w (sw_or (st_isN (s_var 2)) (sw_or (st_cmp w_ge (s_ix (s_var 2) s_int) (s_callB b_len B.len PySem.boot_len (sa_cons (s_var 0) sa_nil))) (sw_or1 (st_cmp (w_nin hr) (s_ix (s_var 0) (s_ix (s_var 2) s_int)) (s_tup (sa_cons s_str (sa_cons s_str sa_nil)))))))) (sb_one (ss_ret s_non)) sb_nil) (sb_cons (ss_set (i := 3) sc__law_joint.nd rfl (Or.inl rfl) (s_def h__law_parsed hr (by omega) (sa_cons (s_var 0) (sa_cons (s_op w_add (s_ix (s_var 2) s_int) s_int) sa_nil)))) (sb_cons (ss_if (st_w (sw_or (st_isN (s_var 3)) (sw_or (st_cmp w_ge (s_ix (s_var 3) s_int) (s_callB b_len B.len PySem.boot_len (sa_cons (s_var 0) sa_nil))) (sw_or1 (st_cmp (w_ne hr) (s_ix (s_var 0) (s_ix (s_var 3) s_int)) s_str))))) (sb_one (ss_ret s_non)) sb_nil) (sb_one (ss_ret (s_tup (sa_cons (s_tup (sa_cons (s_ix (s_var 0) (s_ix (s_var 2) s_int)) (sa_cons (s_ix (s_var 2) s_int) (sa_cons (s_ix (s_var 3) s_int) sa_nil)))) (sa_cons (s_op w_add (s_ix (s_var 3) s_int) s_int) sa_nil)))))))))), hasW_mk (ps := p__law_parsed) F__law_parsed m__law_parsed rfl (fun _ _ _ _ _ _ us hl => match us, hl with | [_, _], _ => rfl) (fnW_of (k := 1 + k) F__law_parsed sc__law_parsed rfl fun cdv A outer s H E hr => (sb_cons (ss_if (st_cmp w_ge (s_var 1) (s_callB b_len B.len PySem.boot_len (sa_cons (s_var 0) sa_nil))) (sb_one (ss_ret s_non)) sb_nil) (sb_cons (ss_set (i := 2) sc__law_parsed.nd rfl (Or.inl rfl) (s_ix (s_var 0) (s_var 1))) (sb_cons (ss_if (st_cmp (w_eq hr) (s_var 2) s_str) (sb_one (ss_ret (s_def h__law_joint hr (by omega) (sa_cons (s_var 0) (sa_cons (s_var 1) sa_nil))))) sb_nil) (sb_cons (ss_if (st_cmp (w_eq hr) (s_var 2) s_str) (sb_cons (ss_set (i := 3) sc__law_parsed.nd rfl (Or.inl rfl) (s_def h__law_parsed hr (by omega) (sa_cons (s_var 0) (sa_cons (s_op w_add (s_var 1) s_int) sa_nil)))) (sb_cons (ss_if (st_isN (s_var 3)) (sb_one (ss_ret s_non)) sb_nil) (sb_one (ss_ret (s_tup (sa_cons (s_tup (sa_cons s_str (sa_cons (s_ix (s_var 3) s_int) sa_nil))) (sa_cons (s_ix (s_var 3) s_int) sa_nil))))))) sb_nil) (sb_cons (ss_if (st_w (sw_or (st_cmp (w_eq hr) (s_var 2) s_str) (sw_or1 (st_cmp (w_eq hr) (s_var 2) s_str)))) (sb_cons (ss_set (i := 3) sc__law_parsed.nd rfl (Or.inl rfl) (s_def h__law_parsed hr (by omega) (sa_cons (s_var 0) (sa_cons (s_op w_add (s_var 1) s_int) sa_nil)))) (sb_cons (ss_if (st_w (sw_or (st_isN (s_var 3)) (sw_or1 (st_not (st_val (s_def h__law_letter_at hr (by omega) (sa_cons (s_var 0) (sa_cons (s_op w_add (s_var 1) s_int) sa_nil)))))))) (sb_one (ss_ret s_non)) sb_nil) (sb_one (ss_ret (s_tup (sa_cons (s_tup (sa_cons (s_var 2) (sa_cons (s_ix (s_var 0) (s_op w_add (s_var 1) s_int)) (sa_cons (s_ix (s_var 3) s_int) sa_nil)))) (sa_cons (s_ix (s_var 3) s_int) sa_nil))))))) sb_nil) (sb_cons (ss_if (st_cmp (w_eq hr) (s_var 2) s_str) (sb_cons (ss_if (st_not (st_val (s_def h__law_letter_at hr (by omega) (sa_cons (s_var 0) (sa_cons (s_op w_add (s_var 1) s_int) sa_nil))))) (sb_one (ss_ret s_non)) sb_nil) (sb_one (ss_ret (s_tup (sa_cons (s_tup (sa_cons s_str (sa_cons (s_ix (s_var 0) (s_op w_add (s_var 1) s_int)) sa_nil))) (sa_cons (s_op w_add (s_var 1) s_int) sa_nil)))))) sb_nil) (sb_cons (ss_if (st_w (sw_or (st_not (st_val (s_def h__law_letter_at hr (by omega) (sa_cons (s_var 0) (sa_cons (s_var 1) sa_nil))))) (sw_or1 (st_not (st_val (s_def h__law_letter_at hr (by omega) (sa_cons (s_var 0) (sa_cons (s_op w_add (s_var 1) s_int) sa_nil)))))))) (sb_one (ss_ret s_non)) sb_nil) (sb_cons (ss_if (st_cmp (w_nin hr) (s_ix (s_var 0) (s_op w_add (s_var 1) s_int)) (s_tup (sa_strs (.cons (.cons (.cons (.cons .nil))))))) (sb_one (ss_ret s_non)) sb_nil) (sb_one (ss_ret (s_tup (sa_cons (s_tup (sa_cons (s_ix (s_var 0) (s_op w_add (s_var 1) s_int)) (sa_cons (s_var 2) (sa_cons (s_ix (s_var 0) (s_op w_add (s_var 1) s_int)) sa_nil)))) (sa_cons (s_op w_add (s_var 1) s_int) sa_nil))))))))))))))⟩
noncomputable def g__law_parts (r__law_parts : List W → List Cell → R W) : FS := (xSeq (xSet 1 (eC (.int 1))) (xSeq (xFor (itAny (eSl (eVar 0) (oSome (eC (.int 1))) oNone)) (gNm 2) (xIf (asB (eIsT "tuple" (eVar 2))) (xSet 1 (e2 wAdd (eVar 1) (eDef 1 r__law_parts (aCons (eVar 2) aNil)))) xNext)) (xRet (eVar 1))))
noncomputable def f__law_parts : Nat → List W → List Cell → R W
  | 0 => fun _ _ => .bad
  | k + 1 => runF 3 (g__law_parts (f__law_parts k))
theorem has__law_parts {fa__law_parts : Addr} {fd__law_parts : FuncData} (F__law_parts : Fun K "_law_parts" "_law_parts" s__law_parts fa__law_parts fd__law_parts) (m__law_parts : mg "_law_parts" = some (.ref fa__law_parts)) (B : Bl mg)  : ∀ k : Nat, HasW P w K mg base (0 + k) "_law_parts" 1 (f__law_parts k)
  | 0 => hasW_bad (ps := p__law_parts) F__law_parts m__law_parts rfl (fun _ _ _ _ _ _ us hl => match us, hl with | [_], _ => rfl)
  | k + 1 => by
    have h__law_parts := has__law_parts F__law_parts m__law_parts B  k
    exact hasW_mk (ps := p__law_parts) F__law_parts m__law_parts rfl (fun _ _ _ _ _ _ us hl => match us, hl with | [_], _ => rfl) (fnW_of (k := 0 + k) F__law_parts sc__law_parts rfl fun cdv A outer s H E hr => (sb_cons (ss_set (i := 1) sc__law_parts.nd rfl (Or.inl rfl) s_int) (sb_cons (ss_for (si_any (s_sl (s_var 0) (so_some s_int) so_none)) (sg_name (i := 2) sc__law_parts.nd rfl (Or.inl rfl)) (sb_one (ss_if (st_val (s_isT B.isinstance B.tuple boot_tuple (s_var 2))) (sb_one (ss_set (i := 1) sc__law_parts.nd rfl (Or.inl rfl) (s_op w_add (s_var 1) (s_def h__law_parts hr (by omega) (sa_cons (s_var 2) sa_nil))))) sb_nil))) (sb_one (ss_ret (s_var 1))))))
noncomputable def g__law_spoilt : FS := (xSeq (xSet 2 (eLst (wStrs [[40], [41], [97, 110, 100], [111, 114], [110, 111, 116], [115, 111, 109, 101], [97, 108, 108], [111, 110, 101], [105, 110], [108, 101, 102, 116], [114, 105, 103, 104, 116], [98, 101, 108, 111, 119], [97], [90], [97, 98]]))) (xSeq (xSet 2 (e2 wAdd (eVar 2) (eLst (wStrs [[], [65, 66], [73, 78], [78, 111, 116], [49], [91], [64], [96], [123], [105, 115, 105, 110], [105, 115], [45], [65], [122], [120], [95]])))) (xSeq (xSet 3 (eMS mSplit (eVar 0) (aCons (eC (.str [32])) aNil))) (xSeq (xSet 4 (e2 wMod (e2 wIx (eVar 1) (eC (.int 0))) (eC (.int 10)))) (xSeq (xSet 5 (e2 wMod (e2 wAdd (e2 wMulA (eC (.int 64)) (e2 wIx (eVar 1) (eC (.int 1)))) (e2 wIx (eVar 1) (eC (.int 2)))) (eCall bLen (aCons (eVar 3) aNil)))) (xSeq (xSet 6 (e2 wMod (e2 wAdd (e2 wMulA (eC (.int 64)) (e2 wIx (eVar 1) (eC (.int 3)))) (e2 wIx (eVar 1) (eC (.int 4)))) (eCall bLen (aCons (eVar 3) aNil)))) (xSeq (xSet 7 (e2 wIx (eVar 2) (e2 wMod (e2 wIx (eVar 1) (eC (.int 5))) (eCall bLen (aCons (eVar 2) aNil))))) (xSeq (xIf (asB (e2 wEq (eVar 4) (eC (.int 0)))) (xExpr (eML mPopI (eVar 3) (aCons (eVar 5) aNil))) (xIf (asB (e2 wEq (eVar 4) (eC (.int 1)))) (xExpr (eML mInsert (eVar 3) (aCons (eVar 5) (aCons (e2 wIx (eVar 3) (eVar 5)) aNil)))) (xIf (asB (e2 wEq (eVar 4) (eC (.int 2)))) (xSeq (xSet 8 (e2 wIx (eVar 3) (eVar 5))) (xSeq (xPut (eVar 3) (eVar 5) (e2 wIx (eVar 3) (eVar 6)) wSetL) (xPut (eVar 3) (eVar 6) (eVar 8) wSetL))) (xIf (asB (e2 wEq (eVar 4) (eC (.int 3)))) (xPut (eVar 3) (eVar 5) (eVar 7) wSetL) (xIf (asB (e2 wEq (eVar 4) (eC (.int 4)))) (xExpr (eML mInsert (eVar 3) (aCons (eVar 5) (aCons (eVar 7) aNil)))) (xIf (asB (e2 wEq (eVar 4) (eC (.int 5)))) (xPut (eVar 3) (eVar 5) (e2 wAdd (e2 wIx (eVar 3) (eVar 5)) (eC (.str [32]))) wSetL) (xIf (asB (e2 wEq (eVar 4) (eC (.int 6)))) (xPut (eVar 3) (eVar 5) (e2 wAdd (eC (.str [32])) (e2 wIx (eVar 3) (eVar 5))) wSetL) (xIf (asB (e2 wEq (eVar 4) (eC (.int 7)))) (xSet 3 (eSl (eVar 3) oNone (oSome (e2 wAdd (eVar 5) (eC (.int 1)))))) (xIf (asB (e2 wEq (eVar 4) (eC (.int 8)))) (xPut (eVar 3) (eVar 5) (e2 wAdd (e2 wAdd (eSl (e2 wIx (eVar 3) (eVar 5)) oNone (oSome (eC (.int 1)))) (eVar 7)) (eSl (e2 wIx (eVar 3) (eVar 5)) (oSome (eC (.int 1))) oNone)) wSetL) (xPut (eVar 3) (eVar 5) (eSl (e2 wIx (eVar 3) (eVar 5)) (oSome (eC (.int 1))) oNone) wSetL)))))))))) (xRet (eMS mJoin (eC (.str [32])) (aCons (eVar 3) aNil)))))))))))
noncomputable def f__law_spoilt : List W → List Cell → R W := runF 9 g__law_spoilt
theorem ok__law_spoilt (F : Fun K "_law_spoilt" "_law_spoilt" s__law_spoilt f fd) (B : Bl mg)  : FnOk P w K mg base (CX1 P w) 1 f fd p__law_spoilt (spW K mg 2 f__law_spoilt) :=
  fnW_of (k := 0) F sc__law_spoilt rfl fun cdv A outer s H E hr => (sb_cons (ss_set (i := 2) sc__law_spoilt.nd rfl (Or.inl rfl) (s_lst (sa_strs (.cons (.cons (.cons (.cons (.cons (.cons (.cons (.cons (.cons (.cons (.cons (.cons (.cons (.cons (.cons .nil)))))))))))))))))) (sb_cons (ss_set (i := 2) sc__law_spoilt.nd rfl (Or.inl rfl) (s_op w_add (s_var 2) (s_lst (sa_strs (.cons (.cons (.cons (.cons (.cons (.cons (.cons (.cons (.cons (.cons (.cons (.cons (.cons (.cons (.cons (.cons .nil)))))))))))))))))))) (sb_cons (ss_set (i := 3) sc__law_spoilt.nd rfl (Or.inl rfl) (s_ms PySem.F.slot_str_split PySem.F.type_str_split m_splitW (s_var 0) (sa_cons s_str sa_nil))) (sb_cons (ss_set (i := 4) sc__law_spoilt.nd rfl (Or.inl rfl) (s_op w_mod (s_ix (s_var 1) s_int) s_int)) (sb_cons (ss_set (i := 5) sc__law_spoilt.nd rfl (Or.inl rfl) (s_op w_mod (s_op w_add (s_op w_mulA s_int (s_ix (s_var 1) s_int)) (s_ix (s_var 1) s_int)) (s_callB b_len B.len PySem.boot_len (sa_cons (s_var 3) sa_nil)))) (sb_cons (ss_set (i := 6) sc__law_spoilt.nd rfl (Or.inl rfl) (s_op w_mod (s_op w_add (s_op w_mulA s_int (s_ix (s_var 1) s_int)) (s_ix (s_var 1) s_int)) (s_callB b_len B.len PySem.boot_len (sa_cons (s_var 3) sa_nil)))) (sb_cons (ss_set (i := 7) sc__law_spoilt.nd rfl (Or.inl rfl) (s_ix (s_var 2) (s_op w_mod (s_ix (s_var 1) s_int) (s_callB b_len B.len PySem.boot_len (sa_cons (s_var 2) sa_nil))))) (sb_cons (ss_if (st_cmp (w_eq hr) (s_var 4) s_int) (sb_one (ss_expr (s_ml PySem.F.slot_list_pop PySem.F.type_list_pop m_popIW (s_var 3) (sa_cons (s_var 5) sa_nil)))) (sb_one (ss_if (st_cmp (w_eq hr) (s_var 4) s_int) (sb_one (ss_expr (s_ml PySem.F.slot_list_insert PySem.F.type_list_insert m_insertW (s_var 3) (sa_cons (s_var 5) (sa_cons (s_ix (s_var 3) (s_var 5)) sa_nil))))) (sb_one (ss_if (st_cmp (w_eq hr) (s_var 4) s_int) (sb_cons (ss_set (i := 8) sc__law_spoilt.nd rfl (Or.inl rfl) (s_ix (s_var 3) (s_var 5))) (sb_cons (ss_put w_setL (s_ix (s_var 3) (s_var 6)) (s_var 3) (s_var 5)) (sb_one (ss_put w_setL (s_var 8) (s_var 3) (s_var 6))))) (sb_one (ss_if (st_cmp (w_eq hr) (s_var 4) s_int) (sb_one (ss_put w_setL (s_var 7) (s_var 3) (s_var 5))) (sb_one (ss_if (st_cmp (w_eq hr) (s_var 4) s_int) (sb_one (ss_expr (s_ml PySem.F.slot_list_insert PySem.F.type_list_insert m_insertW (s_var 3) (sa_cons (s_var 5) (sa_cons (s_var 7) sa_nil))))) (sb_one (ss_if (st_cmp (w_eq hr) (s_var 4) s_int) (sb_one (ss_put w_setL (s_op w_add (s_ix (s_var 3) (s_var 5)) s_str) (s_var 3) (s_var 5))) (sb_one (ss_if (st_cmp (w_eq hr) (s_var 4) s_int) (sb_one (ss_put w_setL (s_op w_add s_str (s_ix (s_var 3) (s_var 5))) (s_var 3) (s_var 5))) (sb_one (ss_if (st_cmp (w_eq hr) (s_var 4) s_int) (sb_one (ss_set (i := 3) sc__law_spoilt.nd rfl (Or.inl rfl) (s_sl (s_var 3) so_none (so_some (s_op w_add (s_var 5) s_int))))) (sb_one (ss_if (st_cmp (w_eq hr) (s_var 4) s_int) (sb_one (ss_put w_setL (s_op w_add (s_op w_add (s_sl (s_ix (s_var 3) (s_var 5)) so_none (so_some s_int)) (s_var 7)) (s_sl (s_ix (s_var 3) (s_var 5)) (so_some s_int) so_none)) (s_var 3) (s_var 5))) (sb_one (ss_put w_setL (s_sl (s_ix (s_var 3) (s_var 5)) (so_some s_int) so_none) (s_var 3) (s_var 5)))))))))))))))))))) (sb_one (ss_ret (s_ms PySem.F.slot_str_join PySem.F.type_str_join m_joinW s_str (sa_cons (s_var 3) sa_nil))))))))))))
noncomputable def g__law_text_of : FS := (xSeq (xSet 2 (eDef 3 f__law_draws (aCons (eDef 2 f__law_cell (aCons (eVar 0) (aCons (e2 wAdd (eVar 1) (eC (.int 4))) aNil))) (aCons (eC (.int 18)) (aCons (e2 wAdd (eC (.int 600011)) (e2 wMulA (eC (.int 500)) (eVar 1))) aNil))))) (xSeq (xSet 3 (e2 wMod (e2 wIx (eVar 2) (eC (.int 0))) (eC (.int 6)))) (xSeq (xSet 4 (e2 wMod (e2 wIx (eVar 2) (eC (.int 1))) (eC (.int 3)))) (xSeq (xSet 5 (e2 wIx (eLst (wStrs [[111, 110, 101, 32, 97], [97, 32, 105, 110, 32, 66], [90, 32, 108, 101, 102, 116, 32, 121], [97, 32, 114, 105, 103, 104, 116, 32, 97], [113, 32, 98, 101, 108, 111, 119, 32, 98], [111, 110, 101, 32, 75]])) (e2 wMod (e2 wIx (eVar 2) (eC (.int 2))) (eC (.int 6))))) (xSeq (xSet 6 (eDef 1 (f__law_written 40) (aCons (eDef 2 f__law_one_of (aCons (eVar 0) (aCons (eVar 1) aNil))) aNil))) (xSeq (xIf (asB (e2 wEq (eVar 3) (eC (.int 3)))) (xSeq (xSet 7 (e2 wAdd (eC (.int 27)) (e2 wMod (e2 wIx (eVar 2) (eC (.int 3))) (eC (.int 4))))) (xSeq (xIf (asB (e2 wEq (e2 wMod (e2 wIx (eVar 2) (eC (.int 4))) (eC (.int 2))) (eC (.int 1)))) (xSet 7 (e2 wAdd (eC (.int 68)) (e2 wMod (e2 wIx (eVar 2) (eC (.int 3))) (eC (.int 8))))) xNext) (xSeq (xSet 6 (e2 wAdd (e2 wAdd (e2 wMulA (eC (.str [110, 111, 116, 32])) (eVar 7)) (e2 wMulA (eC (.str [115, 111, 109, 101, 32, 120, 32])) (e2 wMod (e2 wIx (eVar 2) (eC (.int 5))) (eC (.int 4))))) (eVar 5))) (xSet 4 (e2 wMod (eVar 4) (eC (.int 2))))))) (xIf (asB (e2 wEq (eVar 3) (eC (.int 4)))) (xSeq (xSet 8 (e2 wSub (e2 wAdd (eC (.int 297)) (e2 wMod (e2 wIx (eVar 2) (eC (.int 3))) (eC (.int 7)))) (eCall bLen (aCons (eVar 6) aNil)))) (xSeq (xSet 6 (e2 wAdd (eVar 6) (e2 wMulA (e2 wIx (eLst (wStrs [[32], [97], [40], [32, 110, 111, 116], [122, 32]])) (e2 wMod (e2 wIx (eVar 2) (eC (.int 4))) (eC (.int 5)))) (eVar 8)))) (xSeq (xSet 6 (eSl (eVar 6) oNone (oSome (e2 wAdd (eC (.int 297)) (e2 wMod (e2 wIx (eVar 2) (eC (.int 3))) (eC (.int 7))))))) (xSet 4 (eC (.int 0)))))) (xIf (asB (e2 wEq (eVar 3) (eC (.int 5)))) (xSeq (xSet 7 (e2 wAdd (eC (.int 10)) (e2 wMod (e2 wIx (eVar 2) (eC (.int 3))) (eC (.int 11))))) (xSeq (xSet 6 (e2 wAdd (e2 wAdd (e2 wMulA (eC (.str [40, 32])) (eVar 7)) (eC (.str [111, 110, 101, 32, 97]))) (e2 wMulA (e2 wAdd (e2 wAdd (e2 wIx (eLst (aCons (eC (.str [32, 97, 110, 100, 32])) (aCons (eC (.str [32, 111, 114, 32])) aNil))) (e2 wMod (e2 wIx (eVar 2) (eC (.int 4))) (eC (.int 2)))) (eVar 5)) (eC (.str [32, 41]))) (eVar 7)))) (xSet 4 (e2 wMod (eVar 4) (eC (.int 2)))))) xNext))) (xSeq (xFor (itRange1 (aCons (eVar 4) aNil)) (gNm 9) (xSet 6 (eDef 2 f__law_spoilt (aCons (eVar 6) (aCons (eSl (eVar 2) (oSome (e2 wAdd (eC (.int 6)) (e2 wMulA (eC (.int 6)) (eVar 9)))) (oSome (e2 wAdd (eC (.int 12)) (e2 wMulA (eC (.int 6)) (eVar 9))))) aNil))))) (xRet (eVar 6)))))))))
noncomputable def f__law_text_of : List W → List Cell → R W := runF 10 g__law_text_of
theorem ok__law_text_of (F : Fun K "_law_text_of" "_law_text_of" s__law_text_of f fd) (B : Bl mg) (h__law_cell : HasW P w K mg base 1 "_law_cell" 2 f__law_cell) (h__law_draws : HasW P w K mg base 2 "_law_draws" 3 f__law_draws) (h__law_one_of : HasW P w K mg base 4 "_law_one_of" 2 f__law_one_of) (h__law_spoilt : HasW P w K mg base 1 "_law_spoilt" 2 f__law_spoilt) (h__law_written : HasW P w K mg base 40 "_law_written" 1 (f__law_written 40)) : FnOk P w K mg base (CX1 P w) 41 f fd p__law_text_of (spW K mg 2 f__law_text_of) :=
  fnW_of (k := 40) F sc__law_text_of rfl fun cdv A outer s H E hr => (sb_cons (ss_set (i := 2) sc__law_text_of.nd rfl (Or.inl rfl) (s_def h__law_draws hr (by omega) (sa_cons (s_def h__law_cell hr (by omega) (sa_cons (s_var 0) (sa_cons (s_op w_add (s_var 1) s_int) sa_nil))) (sa_cons s_int (sa_cons (s_op w_add s_int (s_op w_mulA s_int (s_var 1))) sa_nil))))) (sb_cons (ss_set (i := 3) sc__law_text_of.nd rfl (Or.inl rfl) (s_op w_mod (s_ix (s_var 2) s_int) s_int)) (sb_cons (ss_set (i := 4) sc__law_text_of.nd rfl (Or.inl rfl) (s_op w_mod (s_ix (s_var 2) s_int) s_int)) (sb_cons (ss_set (i := 5) sc__law_text_of.nd rfl (Or.inl rfl) (s_ix (s_lst (sa_strs (.cons (.cons (.cons (.cons (.cons (.cons .nil)))))))) (s_op w_mod (s_ix (s_var 2) s_int) s_int))) (sb_cons (ss_set (i := 6) sc__law_text_of.nd rfl (Or.inl rfl) (s_def h__law_written hr (by omega) (sa_cons (s_def h__law_one_of hr (by omega) (sa_cons (s_var 0) (sa_cons (s_var 1) sa_nil))) sa_nil))) (sb_cons (ss_if (st_cmp (w_eq hr) (s_var 3) s_int) (sb_cons (ss_set (i := 7) sc__law_text_of.nd rfl (Or.inl rfl) (s_op w_add s_int (s_op w_mod (s_ix (s_var 2) s_int) s_int))) (sb_cons (ss_if (st_cmp (w_eq hr) (s_op w_mod (s_ix (s_var 2) s_int) s_int) s_int) (sb_one (ss_set (i := 7) sc__law_text_of.nd rfl (Or.inl rfl) (s_op w_add s_int (s_op w_mod (s_ix (s_var 2) s_int) s_int)))) sb_nil) (sb_cons (ss_set (i := 6) sc__law_text_of.nd rfl (Or.inl rfl) (s_op w_add (s_op w_add (s_op w_mulA s_str (s_var 7)) (s_op w_mulA s_str (s_op w_mod (s_ix (s_var 2) s_int) s_int))) (s_var 5))) (sb_one (ss_set (i := 4) sc__law_text_of.nd rfl (Or.inl rfl) (s_op w_mod (s_var 4) s_int)))))) (sb_one (ss_if (st_cmp (w_eq hr) (s_var 3) s_int) (sb_cons (ss_set (i := 8) sc__law_text_of.nd rfl (Or.inl rfl) (s_op w_sub (s_op w_add s_int (s_op w_mod (s_ix (s_var 2) s_int) s_int)) (s_callB b_len B.len PySem.boot_len (sa_cons (s_var 6) sa_nil)))) (sb_cons (ss_set (i := 6) sc__law_text_of.nd rfl (Or.inl rfl) (s_op w_add (s_var 6) (s_op w_mulA (s_ix (s_lst (sa_strs (.cons (.cons (.cons (.cons (.cons .nil))))))) (s_op w_mod (s_ix (s_var 2) s_int) s_int)) (s_var 8)))) (sb_cons (ss_set (i := 6) sc__law_text_of.nd rfl (Or.inl rfl) (s_sl (s_var 6) so_none (so_some (s_op w_add s_int (s_op w_mod (s_ix (s_var 2) s_int) s_int))))) (sb_one (ss_set (i := 4) sc__law_text_of.nd rfl (Or.inl rfl) s_int))))) (sb_one (ss_if (st_cmp (w_eq hr) (s_var 3) s_int) (sb_cons (ss_set (i := 7) sc__law_text_of.nd rfl (Or.inl rfl) (s_op w_add s_int (s_op w_mod (s_ix (s_var 2) s_int) s_int))) (sb_cons (ss_set (i := 6) sc__law_text_of.nd rfl (Or.inl rfl) (s_op w_add (s_op w_add (s_op w_mulA s_str (s_var 7)) s_str) (s_op w_mulA (s_op w_add (s_op w_add (s_ix (s_lst (sa_cons s_str (sa_cons s_str sa_nil))) (s_op w_mod (s_ix (s_var 2) s_int) s_int)) (s_var 5)) s_str) (s_var 7)))) (sb_one (ss_set (i := 4) sc__law_text_of.nd rfl (Or.inl rfl) (s_op w_mod (s_var 4) s_int))))) sb_nil))))) (sb_cons (ss_for (si_range1 B.range (sa_cons (s_var 4) sa_nil)) (sg_name (i := 9) sc__law_text_of.nd rfl (Or.inl rfl)) (sb_one (ss_set (i := 6) sc__law_text_of.nd rfl (Or.inl rfl) (s_def h__law_spoilt hr (by omega) (sa_cons (s_var 6) (sa_cons (s_sl (s_var 2) (so_some (s_op w_add s_int (s_op w_mulA s_int (s_var 9)))) (so_some (s_op w_add s_int (s_op w_mulA s_int (s_var 9))))) sa_nil)))))) (sb_one (ss_ret (s_var 6))))))))))
noncomputable def g__law_read : FS := (xSeq (xSet 1 (eC .non)) (xSeq (xTry (xSet 1 (eDef 1 f_read_statement (aCons (eVar 0) aNil))) cs_TrunkError 2 (xSet 1 (eTup (aCons (eC (.str [114, 101, 102, 117, 115, 101, 100])) (aCons (eIsE ti_ValueError (eVar 2)) (aCons (eIsE ti_NoStatement (eVar 2)) (aCons (eIsE ti_TooGreat (eVar 2)) (aCons (eIsE ti_t0 (eVar 2)) aNil)))))))) (xRet (eVar 1))))
noncomputable def f__law_read : List W → List Cell → R W := runF 3 g__law_read
theorem ok__law_read (F : Fun K "_law_read" "_law_read" s__law_read f fd) (B : Bl mg) (C : Cls K mg) (h_read_statement : HasW P w K mg base 6 "read_statement" 1 f_read_statement) : FnOk P w K mg base (CX1 P w) 7 f fd p__law_read (spW K mg 1 f__law_read) :=
  fnW_of (k := 6) F sc__law_read rfl fun cdv A outer s H E hr => (sb_cons (ss_set (i := 1) sc__law_read.nd rfl (Or.inl rfl) s_non) (sb_cons (ss_try (i := 2) C.catch_TrunkError sc__law_read.nd rfl (Or.inl rfl) (fun _ _ => (sb_one (ss_set (i := 1) sc__law_read.nd rfl (Or.inl rfl) (s_def h_read_statement hr (by omega) (sa_cons (s_var 0) sa_nil))))) (fun _ => (sb_one (ss_set (i := 1) sc__law_read.nd rfl (Or.inl rfl) (s_tup (sa_cons s_str (sa_cons (s_isB B.isinstance B.ValueError boot_VE C.isi_ValueError (s_var 2)) (sa_cons (C.isi_NoStatement.elim fun _ h => s_isC B.isinstance h.1 h.2 (s_var 2)) (sa_cons (C.isi_TooGreat.elim fun _ h => s_isC B.isinstance h.1 h.2 (s_var 2)) (sa_cons (C.isi_t0.elim fun _ h => h.elim fun _ h => h.elim fun _ h => h.elim fun _ h => h.elim fun _ h => h.elim fun _ h => h.elim fun _ h => s_isTp B.isinstance (.cons h.1 rfl (by decide) (.cons h.2.1 rfl (by decide) (.cons h.2.2.1 rfl (by decide) (.cons h.2.2.2.1 rfl (by decide) (.cons h.2.2.2.2.1 rfl (by decide) (.cons h.2.2.2.2.2.1 rfl (by decide) (.cons h.2.2.2.2.2.2.1 rfl (by decide) .nil))))))) h.2.2.2.2.2.2.2 (Nat.le_of_ble_eq_true rfl) (s_var 2)) sa_nil)))))))))) (sb_one (ss_ret (s_var 1)))))
noncomputable def g__law_same (r__law_same : List W → List Cell → R W) : FS := (xSeq (xIf (asB (eIsT "tuple" (eVar 1))) (xSeq (xIf (bor (bnt (asB (eIsT "tuple" (eVar 0)))) (asB (e2 wNe (eCall bLen (aCons (eVar 0) aNil)) (eCall bLen (aCons (eVar 1) aNil))))) (xRet (eC (.bl false))) xNext) (xSeq (xFor (itRange1 (aCons (eCall bLen (aCons (eVar 1) aNil)) aNil)) (gNm 2) (xIf (bnt (asB (eDef 2 r__law_same (aCons (e2 wIx (eVar 0) (eVar 2)) (aCons (e2 wIx (eVar 1) (eVar 2)) aNil))))) (xRet (eC (.bl false))) xNext)) (xRet (eC (.bl true))))) xNext) (xSeq (xIf (asB (eIsN (eVar 1))) (xRet (eIsN (eVar 0))) xNext) (xSeq (xIf (asB (eIsT "bool" (eVar 1))) (xRet (eAnd (eIsT "bool" (eVar 0)) (e2 wEq (eVar 0) (eVar 1)))) xNext) (xSeq (xIf (asB (eIsT "int" (eVar 1))) (xRet (eAnd (eIsT "int" (eVar 0)) (eAnd (eNot (eIsT "bool" (eVar 0))) (e2 wEq (eVar 0) (eVar 1))))) xNext) (xRet (eAnd (eIsT "str" (eVar 0)) (e2 wEq (eVar 0) (eVar 1))))))))
noncomputable def f__law_same : Nat → List W → List Cell → R W
  | 0 => fun _ _ => .bad
  | k + 1 => runF 3 (g__law_same (f__law_same k))
theorem has__law_same {fa__law_same : Addr} {fd__law_same : FuncData} (F__law_same : Fun K "_law_same" "_law_same" s__law_same fa__law_same fd__law_same) (m__law_same : mg "_law_same" = some (.ref fa__law_same)) (B : Bl mg)  : ∀ k : Nat, HasW P w K mg base (0 + k) "_law_same" 2 (f__law_same k)
  | 0 => hasW_bad (ps := p__law_same) F__law_same m__law_same rfl (fun _ _ _ _ _ _ us hl => match us, hl with | [_, _], _ => rfl)
  | k + 1 => by
    have h__law_same := has__law_same F__law_same m__law_same B  k
    exact hasW_mk (ps := p__law_same) F__law_same m__law_same rfl (fun _ _ _ _ _ _ us hl => match us, hl with | [_, _], _ => rfl) (fnW_of (k := 0 + k) F__law_same sc__law_same rfl fun cdv A outer s H E hr => (sb_cons (ss_if (st_val (s_isT B.isinstance B.tuple boot_tuple (s_var 1))) (sb_cons (ss_if (st_w (sw_or (st_not (st_val (s_isT B.isinstance B.tuple boot_tuple (s_var 0)))) (sw_or1 (st_cmp (w_ne hr) (s_callB b_len B.len PySem.boot_len (sa_cons (s_var 0) sa_nil)) (s_callB b_len B.len PySem.boot_len (sa_cons (s_var 1) sa_nil)))))) (sb_one (ss_ret s_bl)) sb_nil) (sb_cons (ss_for (si_range1 B.range (sa_cons (s_callB b_len B.len PySem.boot_len (sa_cons (s_var 1) sa_nil)) sa_nil)) (sg_name (i := 2) sc__law_same.nd rfl (Or.inl rfl)) (sb_one (ss_if (st_not (st_val (s_def h__law_same hr (by omega) (sa_cons (s_ix (s_var 0) (s_var 2)) (sa_cons (s_ix (s_var 1) (s_var 2)) sa_nil))))) (sb_one (ss_ret s_bl)) sb_nil))) (sb_one (ss_ret s_bl)))) sb_nil) (sb_cons (ss_if (st_isN (s_var 1)) (sb_one (ss_ret (s_isN (s_var 0)))) sb_nil) (sb_cons (ss_if (st_val (s_isT B.isinstance B.bool boot_bool (s_var 1))) (sb_one (ss_ret (s_and (s_isT B.isinstance B.bool boot_bool (s_var 0)) (s_one (s_cmp (w_eq hr) (s_var 0) (s_var 1)))))) sb_nil) (sb_cons (ss_if (st_val (s_isT B.isinstance B.int boot_int (s_var 1))) (sb_one (ss_ret (s_and (s_isT B.isinstance B.int boot_int (s_var 0)) (s_and (s_not (s_isT B.isinstance B.bool boot_bool (s_var 0))) (s_one (s_cmp (w_eq hr) (s_var 0) (s_var 1))))))) sb_nil) (sb_one (ss_ret (s_and (s_isT B.isinstance B.str boot_str (s_var 0)) (s_one (s_cmp (w_eq hr) (s_var 0) (s_var 1)))))))))))
noncomputable def g__law_due : FS := (xSeq (xSet 1 (eTup (aCons (eC (.str [114, 101, 102, 117, 115, 101, 100])) (aCons (eC (.bl true)) (aCons (eC (.bl false)) (aCons (eC (.bl true)) (aCons (eC (.bl false)) aNil))))))) (xSeq (xIf (asB (e2 wGt (eCall bLen (aCons (eVar 0) aNil)) (eC (.int 300)))) (xRet (eVar 1)) xNext) (xSeq (xSet 2 (eMS mSplit (eVar 0) (aCons (eC (.str [32])) aNil))) (xSeq (xSet 3 (eDef 2 (f__law_parsed 302) (aCons (eVar 2) (aCons (eC (.int 0)) aNil)))) (xSeq (xIf (bor (asB (eIsN (eVar 3))) (asB (e2 wNe (e2 wIx (eVar 3) (eC (.int 1))) (eCall bLen (aCons (eVar 2) aNil))))) (xRet (eTup (aCons (eC (.str [114, 101, 102, 117, 115, 101, 100])) (aCons (eC (.bl true)) (aCons (eC (.bl true)) (aCons (eC (.bl false)) (aCons (eC (.bl false)) aNil))))))) xNext) (xSeq (xIf (asB (e2 wGt (eDef 1 (f__law_parts 90) (aCons (e2 wIx (eVar 3) (eC (.int 0))) aNil)) (eC (.int 30)))) (xRet (eVar 1)) xNext) (xRet (e2 wIx (eVar 3) (eC (.int 0))))))))))
noncomputable def f__law_due : List W → List Cell → R W := runF 4 g__law_due
theorem ok__law_due (F : Fun K "_law_due" "_law_due" s__law_due f fd) (B : Bl mg) (h__law_parsed : HasW P w K mg base 303 "_law_parsed" 2 (f__law_parsed 302)) (h__law_parts : HasW P w K mg base 90 "_law_parts" 1 (f__law_parts 90)) : FnOk P w K mg base (CX1 P w) 304 f fd p__law_due (spW K mg 1 f__law_due) :=
  fnW_of (k := 303) F sc__law_due rfl fun cdv A outer s H E hr => (sb_cons (ss_set (i := 1) sc__law_due.nd rfl (Or.inl rfl) (s_tup (sa_cons s_str (sa_cons s_bl (sa_cons s_bl (sa_cons s_bl (sa_cons s_bl sa_nil))))))) (sb_cons (ss_if (st_cmp w_gt (s_callB b_len B.len PySem.boot_len (sa_cons (s_var 0) sa_nil)) s_int) (sb_one (ss_ret (s_var 1))) sb_nil) (sb_cons (ss_set (i := 2) sc__law_due.nd rfl (Or.inl rfl) (s_ms PySem.F.slot_str_split PySem.F.type_str_split m_splitW (s_var 0) (sa_cons s_str sa_nil))) (sb_cons (ss_set (i := 3) sc__law_due.nd rfl (Or.inl rfl) (s_def h__law_parsed hr (by omega) (sa_cons (s_var 2) (sa_cons s_int sa_nil)))) (sb_cons (ss_if (st_w (sw_or (st_isN (s_var 3)) (sw_or1 (st_cmp (w_ne hr) (s_ix (s_var 3) s_int) (s_callB b_len B.len PySem.boot_len (sa_cons (s_var 2) sa_nil)))))) (sb_one (ss_ret (s_tup (sa_cons s_str (sa_cons s_bl (sa_cons s_bl (sa_cons s_bl (sa_cons s_bl sa_nil)))))))) sb_nil) (sb_cons (ss_if (st_cmp w_gt (s_def h__law_parts hr (by omega) (sa_cons (s_ix (s_var 3) s_int) sa_nil)) s_int) (sb_one (ss_ret (s_var 1))) sb_nil) (sb_one (ss_ret (s_ix (s_var 3) s_int)))))))))
noncomputable def g_law : FS := (xSeq (xSet 1 (eDef 2 f__law_text_of (aCons (eVar 0) (aCons (eC (.int 0)) aNil)))) (xSeq (xSet 2 (eDef 2 f__law_text_of (aCons (eVar 0) (aCons (eC (.int 5)) aNil)))) (xSeq (xFor (itAny (eTup (aCons (eVar 1) (aCons (eVar 2) (aCons (eVar 1) aNil))))) (gNm 3) (xIf (bnt (asB (eDef 2 (f__law_same 90) (aCons (eDef 1 f__law_read (aCons (eVar 3) aNil)) (aCons (eDef 1 f__law_due (aCons (eVar 3) aNil)) aNil))))) (xRet (eC (.bl false))) xNext)) (xRet (eC (.bl true))))))
noncomputable def f_law : List W → List Cell → R W := runF 4 g_law
theorem ok_law (F : Fun K "law" "law" s_law f fd)  (h__law_due : HasW P w K mg base 304 "_law_due" 1 f__law_due) (h__law_read : HasW P w K mg base 7 "_law_read" 1 f__law_read) (h__law_same : HasW P w K mg base 90 "_law_same" 2 (f__law_same 90)) (h__law_text_of : HasW P w K mg base 41 "_law_text_of" 2 f__law_text_of) : FnOk P w K mg base (CX1 P w) 305 f fd p_law (spW K mg 1 f_law) :=
  fnW_of (k := 304) F sc_law rfl fun cdv A outer s H E hr => (sb_cons (ss_set (i := 1) sc_law.nd rfl (Or.inl rfl) (s_def h__law_text_of hr (by omega) (sa_cons (s_var 0) (sa_cons s_int sa_nil)))) (sb_cons (ss_set (i := 2) sc_law.nd rfl (Or.inl rfl) (s_def h__law_text_of hr (by omega) (sa_cons (s_var 0) (sa_cons s_int sa_nil)))) (sb_cons (ss_for (si_any (s_tup (sa_cons (s_var 1) (sa_cons (s_var 2) (sa_cons (s_var 1) sa_nil))))) (sg_name (i := 3) sc_law.nd rfl (Or.inl rfl)) (sb_one (ss_if (st_not (st_val (s_def h__law_same hr (by omega) (sa_cons (s_def h__law_read hr (by omega) (sa_cons (s_var 3) sa_nil)) (sa_cons (s_def h__law_due hr (by omega) (sa_cons (s_var 3) sa_nil)) sa_nil))))) (sb_one (ss_ret s_bl)) sb_nil))) (sb_one (ss_ret s_bl)))))
end
end P
set_option Elab.async false
set_option linter.all false
set_option maxRecDepth 100000
set_option maxHeartbeats 4000000
namespace P
open PySem L2
theorem mod_at {α : Type} (ns : List α) (hl : 0 < ns.length) (k : Int) : ∃ c ∈ ns, atI ns (k % ((ns.length : Nat) : Int)) = some c := by
  have h0 : 0 ≤ k % ((ns.length : Nat) : Int) := Int.emod_nonneg _ (by omega)
  have h1 : k % ((ns.length : Nat) : Int) < ns.length := Int.emod_lt_of_pos _ (by omega)
  obtain ⟨m, hm⟩ := Int.eq_ofNat_of_zero_le h0
  rw [hm] at h1 ⊢
  have h2 : m < ns.length := by omega
  exact ⟨ns[m], List.getElem_mem _, at_nat (by simp [h2])⟩
theorem cell_ok {n : Nat} {st : List Cell} {ns : List Int} (h : st[n]? = some (.ro (ns.map W.int))) (k : Int) : ∃ c, f__law_cell [.loc n, .int k] st = .ok (.int c) st := by
  by_cases hn : ns = []
  · subst hn
    refine ⟨0, ?_⟩
    apply runF_self; apply k_seqR; apply k_if_t
    · (repeat' (first | with_reducible exact o_lenL (lstOf_r h) | walk_at "ev1"))
    · (walk_at "evs")
  · have hl : 0 < ns.length := List.length_pos_iff.mpr hn
    obtain ⟨c, hc, e⟩ := mod_at (ns.map W.int) (by simpa using hl) k
    obtain ⟨c, _, rfl⟩ := List.mem_map.mp hc
    refine ⟨c, ?_⟩
    apply runF_self; apply k_seq
    · apply k_if_f
      · (repeat' (first | with_reducible exact o_lenL (lstOf_r h) | walk_at "ev1"))
        rw [beq_eq_false_iff_ne, List.length_map]; omega
      · (walk_at "evs")
    · (repeat' (first | with_reducible exact o_lenL (lstOf_r h) | with_reducible exact o_ixL (lstOf_r h) e | walk_at "ev1"))
      rw [List.length_map]; omega
theorem mixed_ok (c k s : Int) (hk : -(2 ^ 64) < k ∧ k < 2 ^ 64) (st : List Cell) : ∃ r, 0 ≤ r ∧ f__law_mixed [.int c, .int k, .int s] st = .ok (.int r) st := by
  have big : ∀ q : Int, 0 ≤ q % 2147483647 ∧ q % 2147483647 < 2147483647 := fun q => ⟨Int.emod_nonneg _ (by decide), Int.emod_lt_of_pos _ (by decide)⟩
  refine ⟨(((c + 7 * k * k + 13 * k + s) * 69621 % 2147483647 * ((c + 7 * k * k + 13 * k + s) * 69621 % 2147483647 / 1009 + 3) + 31 * k + s) % 2147483629 * 48271) % 1000000007, Int.emod_nonneg _ (by decide), ?_⟩
  apply runF_self; apply k_seq
  · (walk_at "evs") <;> first | exact .inl (by decide) | exact .inr (by decide) | exact .inr hk
  · (walk_at "evs") <;> first | exact .inl (by decide) | exact .inr (by decide) | exact .inl (by have := big ((c + 7 * k * k + 13 * k + s) * 69621); omega)
theorem draws_ok (c s : Int) (m : Nat) (hm : m ≤ 1000) (st : List Cell) : ∃ ds : List Int, ds.length = m ∧ (∀ d ∈ ds, 0 ≤ d) ∧ f__law_draws [.int c, .int m, .int s] st = .ok (.loc st.length) (st ++ [.lst (ds.map W.int)]) := by
  suffices hh : Sat (rtP fun w st' => ∃ j x, w = .loc (st.length + j) ∧ st' = st ++ x ∧ j = 0 ∧ ∃ ds : List Int, x = [.lst (ds.map W.int)] ∧ ds.length = m ∧ ∀ d ∈ ds, 0 ≤ d) (g__law_draws ([W.int c, .int m, .int s].map some ++ List.replicate (6 - 3) none) st) by
    obtain ⟨j, x, ⟨rfl, ds, rfl, h1, h2⟩, e⟩ := run_new hh
    exact ⟨ds, h1, h2, e⟩
  apply sat_seq
  · (walk_at "evs")
  apply sat_seq
  · (walk_at "evs")
  have main : ∀ r0 : Int, Sat (rtP fun w st' => ∃ j x, w = .loc (st.length + j) ∧ st' = st ++ x ∧ j = 0 ∧ ∃ ds : List Int, x = [.lst (ds.map W.int)] ∧ ds.length = m ∧ ∀ d ∈ ds, 0 ≤ d)
      (xSeq (xFor (itRange1 (aCons (eVar 1) aNil)) (gNm 5) (xIf (asB (e2 wGt (eVar 4) (eC (.int 0)))) (xSeq (xExpr (eML mAppend (eVar 3) (aCons (e2 wMod (eVar 4) (eC (.int 64))) aNil))) (xSet 4 (e2 wFdiv (eVar 4) (eC (.int 64))))) (xExpr (eML mAppend (eVar 3) (aCons (eDef 3 f__law_mixed (aCons (eVar 0) (aCons (eVar 5) (aCons (eVar 2) aNil)))) aNil))))) (xRet (eVar 3))
      [some (.int c), some (.int m), some (.int s), some (.loc st.length), some (.int r0), none] (st ++ [.lst []])) := by
    intro r0
    refine sat_for (fun i ρ st' => ∃ (r : Int) (o : Option W) (ds : List Int), ρ = [some (.int c), some (.int m), some (.int s), some (.loc st.length), some (.int r), o] ∧ st' = st ++ [.lst (ds.map W.int)] ∧ ds.length = i ∧ ∀ d ∈ ds, 0 ≤ d) (i_range1 (by (walk_at "evs"); rfl) (by omega))
      ⟨r0, none, [], rfl, rfl, rfl, by simp⟩ (fun _ _ _ _ => trivial) ?_ ?_
    · rintro i w ρ st' hw ⟨r, o, ds, rfl, rfl, hd, h⟩
      obtain ⟨hi, rfl⟩ := rangeW_at hw
      refine ⟨_, rfl, ?_⟩
      have hcell : (st ++ [Cell.lst (ds.map W.int)])[st.length]? = some (.lst (ds.map W.int)) := by rw [cell_at0]; rfl
      have hsh : (ds.map W.int).length < LIM := by rw [List.length_map, hd]; show i < 1000000; omega
      by_cases hr : 0 < r
      · apply sat_t
        · (walk_at "evs"); simpa using hr
        apply sat_seq
        · (repeat' (first | with_reducible exact k_isLst hcell | with_reducible exact o_app hcell hsh | walk_at "ev1"))
        rw [cell_set0]
        apply sat_eq
        · (walk_at "evs")
        · refine ⟨_, _, rfl, r / 64, _, ds ++ [r % 64], rfl, by simp, by simp [hd], fun d hd' => ?_⟩
          rcases List.mem_append.mp hd' with hd' | hd'
          · exact h d hd'
          · rw [List.mem_singleton.mp hd']; exact Int.emod_nonneg _ (by decide)
      · obtain ⟨q, hq, e⟩ := mixed_ok c (0 + i) s (by omega) (st ++ [Cell.lst (ds.map W.int)])
        apply sat_f
        · (walk_at "evs"); simpa using hr
        apply sat_eq
        · (repeat' (first | with_reducible exact k_isLst hcell | with_reducible exact o_app hcell hsh | with_reducible exact e | walk_at "ev1"))
        · refine ⟨_, _, rfl, r, _, ds ++ [q], rfl, by rw [cell_set0]; simp, by simp [hd], fun d hd' => ?_⟩
          rcases List.mem_append.mp hd' with hd' | hd'
          · exact h d hd'
          · rw [List.mem_singleton.mp hd']; exact hq
    · rintro ρ st' ⟨r, o, ds, rfl, rfl, hd, h⟩
      apply sat_ret
      · (walk_at "evs")
      · exact ⟨_, _, rfl, 0, _, rfl, rfl, rfl, ds, rfl, by rw [hd]; simpa using rangeW_len 0 m, h⟩
  by_cases hc : (10 : Int) ^ 18 ≤ c
  · apply sat_seq
    · apply k_if_t
      · (walk_at "evs") <;> simpa using hc
      · (walk_at "evs")
    · exact main c
  · apply sat_seq
    · apply k_if_f
      · (walk_at "evs") <;> simpa using hc
      · (walk_at "evs")
    · exact main 0
abbrev LL : List Nat := [65, 66, 67, 68, 69, 70, 71, 72, 73, 74, 75, 76, 77, 78, 79, 80, 81, 82, 83, 84, 85, 86, 87, 88, 89, 90, 97, 98, 99, 100, 101, 102, 103, 104, 105, 106, 107, 108, 109, 110, 111, 112, 113, 114, 115, 116, 117, 118, 119, 120, 121, 122]
theorem pool_ok (c s : Int) (m : Nat) (hm : m ≤ 50) (st : List Cell) : ∃ l : List Nat, l.length = m ∧ (∀ d ∈ l, d ∈ LL) ∧ f__law_pool [.int c, .int m, .int s] st = .ok (.str l) st := by
  suffices hh : Sat (rtP fun w st' => (∃ x, st' = st ++ x) ∧ undWs st.length [w] = true ∧ ∃ l : List Nat, w = .str l ∧ l.length = m ∧ ∀ d ∈ l, d ∈ LL) (g__law_pool ([W.int c, .int m, .int s].map some ++ List.replicate (7 - 3) none) st) by
    obtain ⟨w, ⟨l, rfl, h1, h2⟩, e⟩ := run_val hh
    exact ⟨l, h1, h2, e⟩
  obtain ⟨ds, h1, h2, e⟩ := draws_ok c s m (by omega) st
  apply sat_seq
  · (walk_at "evs")
  apply sat_seq
  · (walk_at "evs")
  have hcell : lstOf (st ++ [Cell.lst (ds.map W.int)]) st.length = some (ds.map W.int) := lstOf_l (by rw [cell_at0]; rfl)
  refine sat_for (fun i ρ st' => ∃ (r f : List Nat) (o o2 : Option W), ρ = [some (.int c), some (.int m), some (.int s), some (.str r), some (.str f), o, o2] ∧ st' = st ++ [.lst (ds.map W.int)] ∧ f.length = i ∧ r.length + i = 52 ∧ (∀ d ∈ r, d ∈ LL) ∧ ∀ d ∈ f, d ∈ LL) (i_any_l (by (repeat' (first | with_reducible exact e | walk_at "ev1"))) hcell)
    ⟨LL, [], none, none, rfl, rfl, rfl, rfl, fun _ h => h, by simp⟩ (fun i ρ st' h => ?_) ?_ ?_
  · obtain ⟨r, f, o, o2, rfl, rfl, _⟩ := h
    exact hcell
  · rintro i w ρ st' hw ⟨r, f, o, o2, rfl, rfl, hf, hr, hrl, hfl⟩
    obtain ⟨d, hd, rfl⟩ : ∃ d, ds[i]? = some d ∧ w = .int d := by
      simp only [List.getElem?_map, Option.map_eq_some_iff] at hw
      obtain ⟨d, h1, rfl⟩ := hw
      exact ⟨d, h1, rfl⟩
    have hi : i < m := by rw [← h1]; exact (List.getElem?_eq_some_iff.mp hd).1
    obtain ⟨q, hq, eq⟩ := mod_nat (q := d) (n := r.length) (by omega)
    have hL : r.length ≤ LIM := by show _ ≤ 1000000; omega
    have hLf : f.length ≤ LIM := by show _ ≤ 1000000; omega
    have hat : atI r (d % (r.length : Int)) = some r[q] := by rw [eq]; exact at_nat (by simp [hq])
    refine ⟨_, rfl, ?_⟩
    apply sat_seq
    · (repeat' (first | with_reducible exact o_lenS hL | walk_at "ev1"))
      show 0 < (r.length : Int); omega
    apply sat_seq
    · have ha : f.length + [r[q]].length ≤ LIM := by show _ + 1 ≤ 1000000; omega
      (repeat' (first | with_reducible exact o_ixS hL hat | with_reducible exact o_addS ha | walk_at "ev1"))
    apply sat_eq
    · (repeat' (first | with_reducible exact o_slS hL | walk_at "ev1"))
      rw [eq, cut_pre (by omega), show ((q : Int) + 1) = ((q + 1 : Nat) : Int) from rfl, cut_suf (by omega), List.length_take, List.length_drop]
      show _ ≤ 1000000; omega
    · refine ⟨_, _, rfl, _, _, _, _, rfl, rfl, by simp [hf], ?_, ?_, ?_⟩
      · rw [eq, cut_pre (by omega), show ((q : Int) + 1) = ((q + 1 : Nat) : Int) from rfl, cut_suf (by omega), List.length_append, List.length_take, List.length_drop]
        omega
      · intro d hd
        rw [eq, cut_pre (by omega), show ((q : Int) + 1) = ((q + 1 : Nat) : Int) from rfl, cut_suf (by omega)] at hd
        rcases List.mem_append.mp hd with hd | hd
        · exact hrl _ (List.mem_of_mem_take hd)
        · exact hrl _ (List.mem_of_mem_drop hd)
      · intro d hd
        rcases List.mem_append.mp hd with hd | hd
        · exact hfl _ hd
        · rw [List.mem_singleton.mp hd]; exact hrl _ (List.getElem_mem _)
  · rintro ρ st' ⟨r, f, o, o2, rfl, rfl, hf, hr, hrl, hfl⟩
    apply sat_ret
    · (walk_at "evs")
    · exact ⟨_, _, rfl, ⟨_, rfl⟩, rfl, f, rfl, by rw [hf]; simpa using h1, hfl⟩
end P
set_option Elab.async false
set_option linter.all false
set_option maxRecDepth 100000
set_option maxHeartbeats 4000000
namespace P
open PySem L2
abbrev ONE : List Nat := [111, 110, 101]
abbrev NOT : List Nat := [110, 111, 116]
abbrev TWO : List (List Nat) := [[105, 110], [108, 101, 102, 116], [114, 105, 103, 104, 116], [98, 101, 108, 111, 119]]
abbrev BND : List (List Nat) := [[115, 111, 109, 101], [97, 108, 108]]
abbrev JN : List (List Nat) := [[97, 110, 100], [111, 114]]
abbrev WRD : List (List Nat) := [[105, 110], [111, 110, 101], [108, 101, 102, 116], [114, 105, 103, 104, 116], [98, 101, 108, 111, 119], [110, 111, 116], [115, 111, 109, 101], [97, 108, 108], [97, 110, 100], [111, 114]]
inductive Stm where
  | one (a : Nat) | two (k : List Nat) (a b : Nat) | neg (s : Stm) | bnd (k : List Nat) (a : Nat) (s : Stm) | jn (k : List Nat) (s t : Stm)
namespace Stm
def w : Stm → W
  | one a => .tup [.str ONE, .str [a]]
  | two k a b => .tup [.str k, .str [a], .str [b]]
  | neg s => .tup [.str NOT, s.w]
  | bnd k a s => .tup [.str k, .str [a], s.w]
  | jn k s t => .tup [.str k, s.w, t.w]
def ok : Stm → Prop
  | one a => a ∈ LL
  | two k a b => k ∈ TWO ∧ a ∈ LL ∧ b ∈ LL
  | neg s => s.ok
  | bnd k a s => k ∈ BND ∧ a ∈ LL ∧ s.ok
  | jn k s t => k ∈ JN ∧ s.ok ∧ t.ok
def parts : Stm → Nat
  | one a => 1
  | two k a b => 1
  | neg s => s.parts + 1
  | bnd k a s => s.parts + 1
  | jn k s t => s.parts + t.parts + 1
theorem dep_le : ∀ s : Stm, s.w.dep ≤ s.parts
  | one a => by simp [w, W.dep, depWs, parts]
  | two k a b => by simp [w, W.dep, depWs, parts]
  | neg s => by have := dep_le s; simp only [w, W.dep, depWs, parts]; omega
  | bnd k a s => by have := dep_le s; simp only [w, W.dep, depWs, parts]; omega
  | jn k s t => by have := dep_le s; have := dep_le t; simp only [w, W.dep, depWs, parts]; omega
theorem und : ∀ (s : Stm) (n : Nat), s.w.und n = true
  | one a, n => by simp [w, W.und, undWs]
  | two k a b, n => by simp [w, W.und, undWs]
  | neg s, n => by simp [w, W.und, undWs, und s n]
  | bnd k a s, n => by simp [w, W.und, undWs, und s n]
  | jn k s t, n => by simp [w, W.und, undWs, und s n, und t n]
end Stm
def psum (h : List Stm) : Nat := (h.map Stm.parts).sum
theorem in567 (q : Nat) (hq : q < 10) (st : List Cell) : wIn false (.int q) (.tup [.int 5, .int 6, .int 7]) st = .ok (.bl (decide (5 ≤ q ∧ q ≤ 7))) st := by
  obtain rfl | rfl | rfl | rfl | rfl | rfl | rfl | rfl | rfl | rfl : q = 0 ∨ q = 1 ∨ q = 2 ∨ q = 3 ∨ q = 4 ∨ q = 5 ∨ q = 6 ∨ q = 7 ∨ q = 8 ∨ q = 9 := by omega
  all_goals rfl
theorem in567t {q : Nat} (hq : 5 ≤ q ∧ q ≤ 7) (st : List Cell) : wIn false (.int q) (.tup [.int 5, .int 6, .int 7]) st = .ok (.bl true) st := by rw [in567 q (by omega), decide_eq_true hq]
theorem in567f {q : Nat} (hq : q < 10) (hn : ¬ (5 ≤ q ∧ q ≤ 7)) (st : List Cell) : wIn false (.int q) (.tup [.int 5, .int 6, .int 7]) st = .ok (.bl false) st := by rw [in567 q hq, decide_eq_false hn]
structure Hp' (h : List Stm) (p : Nat) : Prop where
  ok : ∀ s ∈ h, s.ok
  sum : psum h = p
  le : p + h.length ≤ 31
theorem ix_last {α : Type} {l : List α} {x : α} : ixN (l ++ [x]).length (-1) = some l.length := by
  unfold ixN
  rw [if_neg (by omega), if_pos (by simp; omega)]
  simp only [List.length_append, List.length_cons, List.length_nil]
  congr 1
  omega
theorem set_last {α : Type} {l : List α} {x y : α} : (l ++ [x]).set l.length y = l ++ [y] := by simp
theorem at_last {l : List W} {x : W} : atI (l ++ [x]) (-1) = some x := at_neg (q := 0) (by simp)
theorem built_ok {st : List Cell} {d m : Nat} {ds : List Int} {pool : List Nat} (hd : st[d]? = some (.lst (ds.map W.int))) (hl : ds.length = 90) (h1 : 1 ≤ m) (hm : m ≤ 30) (hp : 0 < pool.length) (hp2 : pool.length ≤ 50) (hpl : ∀ c ∈ pool, c ∈ LL) :
    ∃ s : Stm, s.ok ∧ s.parts ≤ 30 ∧ f__law_built [.loc d, .int m, .str pool] st = .ok s.w st := by
  suffices hh : Sat (rtP fun w st' => (∃ x, st' = st ++ x) ∧ undWs st.length [w] = true ∧ ∃ s : Stm, w = s.w ∧ s.ok ∧ s.parts ≤ 30) (g__law_built ([W.loc d, .int m, .str pool].map some ++ List.replicate (12 - 3) none) st) by
    obtain ⟨w, ⟨l, rfl, h1, h2⟩, e⟩ := run_val hh
    exact ⟨l, h1, h2, e⟩
  have hdd : d < st.length := (List.getElem?_eq_some_iff.mp hd).1
  apply sat_seq
  · (walk_at "evs")
  apply sat_seq
  · (walk_at "evs")
  apply sat_seq
  · (walk_at "evs")
  simp only [List.append_assoc, List.length_append, List.length_cons, List.length_nil, List.cons_append, List.nil_append, Nat.zero_add]
  have hpL : pool.length ≤ LIM := by show _ ≤ 1000000; omega
  refine sat_for (fun i ρ st' => ∃ (h : List Stm) (p : Nat) (o6 o7 o8 o9 o10 o11 : Option W), ρ = [some (.loc d), some (.int m), some (.str pool), some (.loc st.length), some (.loc (st.length + 1)), some (.int p), o6, o7, o8, o9, o10, o11] ∧ st' = st ++ [.lst (WRD.map W.str), .lst (h.map Stm.w)] ∧ Hp' h p ∧ (0 < i → h ≠ [])) (i_range1 (by (walk_at "evs"); rfl) (by omega))
    ⟨[], 0, none, none, none, none, none, none, rfl, rfl, ⟨by simp, rfl, by simp⟩, by omega⟩ (fun _ _ _ _ => trivial) ?_ ?_
  · rintro i w ρ st' hw ⟨h, p, o6, o7, o8, o9, o10, o11, rfl, rfl, ⟨hok, hsum, hle⟩, hne⟩
    obtain ⟨hi, rfl⟩ := rangeW_at hw
    refine ⟨_, rfl, ?_⟩
    have hds : lstOf (st ++ [Cell.lst (WRD.map W.str), Cell.lst (h.map Stm.w)]) d = some (ds.map W.int) := lstOf_l (cell_old hd)
    have hhp : (st ++ [Cell.lst (WRD.map W.str), Cell.lst (h.map Stm.w)])[st.length + 1]? = some (.lst (h.map Stm.w)) := by rw [cell_at]; rfl
    have hi' : i < m := by omega
    obtain ⟨d0, hd0⟩ : ∃ x, ds[3 * i]? = some x := ⟨ds[3 * i]'(by omega), by simp⟩
    obtain ⟨d1, hd1⟩ : ∃ x, ds[3 * i + 1]? = some x := ⟨ds[3 * i + 1]'(by omega), by simp⟩
    obtain ⟨d2, hd2⟩ : ∃ x, ds[3 * i + 2]? = some x := ⟨ds[3 * i + 2]'(by omega), by simp⟩
    have e0 : atI (ds.map W.int) (3 * (0 + (i : Int))) = some (.int d0) := by rw [show (3 * (0 + (i : Int))) = ((3 * i : Nat) : Int) by omega]; exact at_nat (by simp [hd0])
    have e1 : atI (ds.map W.int) (3 * (0 + (i : Int)) + 1) = some (.int d1) := by rw [show (3 * (0 + (i : Int)) + 1) = ((3 * i + 1 : Nat) : Int) by omega]; exact at_nat (by simp [hd1])
    have e2 : atI (ds.map W.int) (3 * (0 + (i : Int)) + 2) = some (.int d2) := by rw [show (3 * (0 + (i : Int)) + 2) = ((3 * i + 2 : Nat) : Int) by omega]; exact at_nat (by simp [hd2])
    obtain ⟨q, hq, eq⟩ : ∃ q : Nat, q < 10 ∧ d0 % 10 = q := ⟨(d0 % 10).toNat, by omega, by omega⟩
    obtain ⟨qa, hqa, eqa⟩ := mod_at pool hp d1
    obtain ⟨qb, hqb, eqb⟩ := mod_at pool hp d2
    apply sat_seq
    · (repeat' (first | with_reducible exact o_ixL hds e0 | walk_at "ev1"))
      exact .inl (by decide)
    rw [eq]
    apply sat_seq
    · (repeat' (first | with_reducible exact o_ixL hds e1 | with_reducible exact o_lenS hpL | with_reducible exact o_ixS hpL eqa | walk_at "ev1"))
      · exact .inl (by decide)
      · show 0 < (pool.length : Int); omega
    apply sat_seq
    · (repeat' (first | with_reducible exact o_ixL hds e2 | with_reducible exact o_lenS hpL | with_reducible exact o_ixS hpL eqb | walk_at "ev1"))
      · exact .inl (by decide)
      · show 0 < (pool.length : Int); omega
    have hlen := o_lenL (lstOf_l hhp)
    rw [List.length_map] at hlen
    by_cases hA : 8 ≤ q ∧ 1 < h.length
    · obtain ⟨h', x, y, rfl⟩ : ∃ h' x y, h = h' ++ [x, y] := by
        refine ⟨h.dropLast.dropLast, h.dropLast.getLast (by intro z; have := congrArg List.length z; simp at this; omega), h.getLast (by intro z; rw [z] at hA; simp at hA), ?_⟩
        rw [show ∀ (a : List Stm) (b c : Stm), a ++ [b, c] = (a ++ [b]) ++ [c] from fun _ _ _ => by simp, List.dropLast_concat_getLast, List.dropLast_concat_getLast]
      apply sat_t
      · apply k_bnd_t
        · (walk_at "evs"); simp; omega
        · (repeat' (first | with_reducible exact hlen | walk_at "ev1"))
          simp; omega
      have hpop : (st ++ [Cell.lst (WRD.map W.str), Cell.lst ((h' ++ [x, y]).map Stm.w)])[st.length + 1]? = some (.lst ((h'.map Stm.w ++ [x.w]) ++ [y.w])) := by rw [hhp]; simp
      apply sat_seq
      · (repeat' (first | with_reducible exact k_isLst hhp | with_reducible exact o_pop hpop | walk_at "ev1"))
      rw [cell_set]
      have hc2 : (st ++ [Cell.lst (WRD.map W.str), Cell.lst ((h' ++ [x, y]).map Stm.w)].set 1 (.lst (h'.map Stm.w ++ [x.w])))[st.length + 1]? = some (.lst (h'.map Stm.w ++ [x.w])) := by rw [cell_at]; rfl
      have hc3 : (st ++ [Cell.lst (WRD.map W.str), Cell.lst ((h' ++ [x, y]).map Stm.w)].set 1 (.lst (h'.map Stm.w ++ [x.w])))[st.length]? = some (.lst (WRD.map W.str)) := by rw [cell_at0]; rfl
      obtain ⟨k, hk, ek⟩ : ∃ k, k ∈ JN ∧ atI (WRD.map W.str) (q : Int) = some (.str k) := by
        obtain rfl | rfl : q = 8 ∨ q = 9 := by omega
        · exact ⟨[97, 110, 100], by decide, rfl⟩
        · exact ⟨[111, 114], by decide, rfl⟩
      apply sat_seq
      · (repeat' (first | with_reducible exact o_ixL (lstOf_l hc3) ek | with_reducible exact o_ixL (lstOf_l hc2) at_last | with_reducible exact o_putL hc2 ix_last | walk_at "ev1"))
      rw [cell_set]
      apply sat_eq
      · (walk_at "evs")
      · refine ⟨_, _, rfl, h' ++ [.jn k x y], p + 1, _, _, _, _, _, _, rfl, ?_, ⟨fun s hs => ?_, ?_, ?_⟩, fun _ z => by simp at z⟩
        · rw [show (h'.map Stm.w).length = h'.length from List.length_map _]
          simp [Stm.w]
        · rcases List.mem_append.mp hs with hs | hs
          · exact hok s (List.mem_append_left _ hs)
          · rw [List.mem_singleton.mp hs]
            exact ⟨hk, hok x (by simp), hok y (by simp)⟩
        · rw [← hsum]; simp [psum, Stm.parts]; omega
        · simp at hle ⊢; omega
    apply sat_f
    · by_cases h8 : 8 ≤ q
      · apply k_bnd_t
        · (walk_at "evs"); simp; omega
        · (repeat' (first | with_reducible exact hlen | walk_at "ev1"))
          simp; omega
      · apply k_bnd_f
        (walk_at "evs"); simp; omega
    by_cases hB : (5 ≤ q ∧ q ≤ 7) ∧ 0 < h.length
    · apply sat_t
      · apply k_bnd_t
        · (repeat' (first | with_reducible exact in567t hB.1 _ | walk_at "ev1"))
        · (repeat' (first | with_reducible exact hlen | walk_at "ev1"))
          simp; omega
      by_cases h30 : p + h.length ≤ 30
      · obtain ⟨h', x, rfl⟩ : ∃ h' x, h = h' ++ [x] := ⟨h.dropLast, h.getLast (by intro z; rw [z] at hB; simp at hB), (List.dropLast_concat_getLast _).symm⟩
        apply sat_t
        · (repeat' (first | with_reducible exact hlen | walk_at "ev1"))
          simp; simp at h30; omega
        have hpop : (st ++ [Cell.lst (WRD.map W.str), Cell.lst ((h' ++ [x]).map Stm.w)])[st.length + 1]? = some (.lst (h'.map Stm.w ++ [x.w])) := by rw [hhp]; simp
        apply sat_seq
        · (repeat' (first | with_reducible exact k_isLst hhp | with_reducible exact o_pop hpop | walk_at "ev1"))
        rw [cell_set]
        have hc2 : (st ++ [Cell.lst (WRD.map W.str), Cell.lst ((h' ++ [x]).map Stm.w)].set 1 (.lst (h'.map Stm.w)))[st.length + 1]? = some (.lst (h'.map Stm.w)) := by rw [cell_at]; rfl
        have hc3 : (st ++ [Cell.lst (WRD.map W.str), Cell.lst ((h' ++ [x]).map Stm.w)].set 1 (.lst (h'.map Stm.w)))[st.length]? = some (.lst (WRD.map W.str)) := by rw [cell_at0]; rfl
        have hsm : (h'.map Stm.w).length < LIM := by rw [List.length_map]; simp at hle; show _ < 1000000; omega
        have fin : ∀ s : Stm, s.ok → s.parts = x.parts + 1 → ∀ o6 o7 o8 o9 o10 o11 : Option W, nxP (fun ρ st' => ∃ (h : List Stm) (p : Nat) (o6 o7 o8 o9 o10 o11 : Option W), ρ = [some (.loc d), some (.int m), some (.str pool), some (.loc st.length), some (.loc (st.length + 1)), some (.int p), o6, o7, o8, o9, o10, o11] ∧ st' = st ++ [.lst (WRD.map W.str), .lst (h.map Stm.w)] ∧ Hp' h p ∧ (0 < i + 1 → h ≠ []))
            (.nx [some (.loc d), some (.int m), some (.str pool), some (.loc st.length), some (.loc (st.length + 1)), some (.int ((p : Int) + 1)), o6, o7, o8, o9, o10, o11] (st ++ [Cell.lst (WRD.map W.str), Cell.lst (h'.map Stm.w ++ [s.w])])) := by
          intro s hs hs2 o6 o7 o8 o9 o10 o11
          refine ⟨_, _, rfl, h' ++ [s], p + 1, _, _, _, _, _, _, rfl, by simp, ⟨fun s' hs' => ?_, ?_, ?_⟩, fun _ z => by simp at z⟩
          · rcases List.mem_append.mp hs' with hs' | hs'
            · exact hok s' (List.mem_append_left _ hs')
            · rw [List.mem_singleton.mp hs']; exact hs
          · rw [← hsum]; simp [psum, hs2]; omega
          · simp at hle h30 ⊢; omega
        by_cases h5 : q = 5
        · subst h5
          apply sat_seq_t
          · (walk_at "evs")
          apply sat_seq
          · (repeat' (first | with_reducible exact k_isLst hc2 | with_reducible exact o_app hc2 hsm | walk_at "ev1"))
          rw [cell_set]
          apply sat_eq
          · (walk_at "evs")
          · exact fin (.neg x) (hok x (by simp)) rfl _ _ _ _ _ _
        · obtain ⟨k, hk, ek⟩ : ∃ k, k ∈ BND ∧ atI (WRD.map W.str) (q : Int) = some (.str k) := by
            obtain rfl | rfl : q = 6 ∨ q = 7 := by omega
            · exact ⟨[115, 111, 109, 101], by decide, rfl⟩
            · exact ⟨[97, 108, 108], by decide, rfl⟩
          apply sat_seq_f
          · (walk_at "evs")
            rw [beq_eq_false_iff_ne]; omega
          apply sat_seq
          · (repeat' (first | with_reducible exact k_isLst hc2 | with_reducible exact o_ixL (lstOf_l hc3) ek | with_reducible exact o_app hc2 hsm | walk_at "ev1"))
          rw [cell_set]
          apply sat_eq
          · (walk_at "evs")
          · exact fin (.bnd k qa x) ⟨hk, hpl _ hqa, hok x (by simp)⟩ rfl _ _ _ _ _ _
      · apply sat_f
        · (repeat' (first | with_reducible exact hlen | walk_at "ev1"))
          simp; omega
        apply sat_eq
        · (walk_at "evs")
        · exact ⟨_, _, rfl, h, p, _, _, _, _, _, _, rfl, rfl, ⟨hok, hsum, hle⟩, fun _ z => by rw [z] at hB; simp at hB⟩
    apply sat_f
    · by_cases h8 : 5 ≤ q ∧ q ≤ 7
      · apply k_bnd_t
        · (repeat' (first | with_reducible exact in567t h8 _ | walk_at "ev1"))
        · (repeat' (first | with_reducible exact hlen | walk_at "ev1"))
          exact decide_eq_false (by omega)
      · apply k_bnd_f
        (repeat' (first | with_reducible exact in567f hq h8 _ | walk_at "ev1"))
    by_cases h30 : p + h.length + 1 ≤ 30
    · apply sat_t
      · (repeat' (first | with_reducible exact hlen | walk_at "ev1"))
        simp; omega
      have hc3 : (st ++ [Cell.lst (WRD.map W.str), Cell.lst (h.map Stm.w)])[st.length]? = some (.lst (WRD.map W.str)) := by rw [cell_at0]; rfl
      have hsm : (h.map Stm.w).length < LIM := by rw [List.length_map]; show _ < 1000000; omega
      have fin : ∀ s : Stm, s.ok → s.parts = 1 → ∀ o6 o7 o8 o9 o10 o11 : Option W, nxP (fun ρ st' => ∃ (h : List Stm) (p : Nat) (o6 o7 o8 o9 o10 o11 : Option W), ρ = [some (.loc d), some (.int m), some (.str pool), some (.loc st.length), some (.loc (st.length + 1)), some (.int p), o6, o7, o8, o9, o10, o11] ∧ st' = st ++ [.lst (WRD.map W.str), .lst (h.map Stm.w)] ∧ Hp' h p ∧ (0 < i + 1 → h ≠ []))
          (.nx [some (.loc d), some (.int m), some (.str pool), some (.loc st.length), some (.loc (st.length + 1)), some (.int ((p : Int) + 1)), o6, o7, o8, o9, o10, o11] (st ++ [Cell.lst (WRD.map W.str), Cell.lst (h.map Stm.w ++ [s.w])])) := by
        intro s hs hs2 o6 o7 o8 o9 o10 o11
        refine ⟨_, _, rfl, h ++ [s], p + 1, _, _, _, _, _, _, rfl, by simp, ⟨fun s' hs' => ?_, ?_, ?_⟩, fun _ z => by simp at z⟩
        · rcases List.mem_append.mp hs' with hs' | hs'
          · exact hok s' hs'
          · rw [List.mem_singleton.mp hs']; exact hs
        · rw [← hsum]; simp [psum, hs2]
        · simp; omega
      by_cases h1 : q % 5 = 1
      · apply sat_seq_t
        · (walk_at "evs")
          rw [beq_iff_eq]; omega
        apply sat_seq
        · (repeat' (first | with_reducible exact k_isLst hhp | with_reducible exact o_app hhp hsm | walk_at "ev1"))
        rw [cell_set]
        apply sat_eq
        · (walk_at "evs")
        · exact fin (.one qa) (hpl _ hqa) rfl _ _ _ _ _ _
      · obtain ⟨k, hk, ek⟩ : ∃ k, k ∈ TWO ∧ atI (WRD.map W.str) ((q : Int) % 5) = some (.str k) := by
          obtain rfl | rfl | rfl | rfl | rfl | rfl | rfl | rfl | rfl | rfl : q = 0 ∨ q = 1 ∨ q = 2 ∨ q = 3 ∨ q = 4 ∨ q = 5 ∨ q = 6 ∨ q = 7 ∨ q = 8 ∨ q = 9 := by omega
          · exact ⟨[105, 110], by decide, rfl⟩
          · exact absurd rfl h1
          · exact ⟨[108, 101, 102, 116], by decide, rfl⟩
          · exact ⟨[114, 105, 103, 104, 116], by decide, rfl⟩
          · exact ⟨[98, 101, 108, 111, 119], by decide, rfl⟩
          · exact ⟨[105, 110], by decide, rfl⟩
          · exact absurd rfl h1
          · exact ⟨[108, 101, 102, 116], by decide, rfl⟩
          · exact ⟨[114, 105, 103, 104, 116], by decide, rfl⟩
          · exact ⟨[98, 101, 108, 111, 119], by decide, rfl⟩
        apply sat_seq_f
        · (walk_at "evs")
          rw [beq_eq_false_iff_ne]; omega
        apply sat_seq
        · (repeat' (first | with_reducible exact k_isLst hhp | with_reducible exact o_ixL (lstOf_l hc3) ek | with_reducible exact o_app hhp hsm | walk_at "ev1"))
        rw [cell_set]
        apply sat_eq
        · (walk_at "evs")
        · exact fin (.two k qa qb) ⟨hk, hpl _ hqa, hpl _ hqb⟩ rfl _ _ _ _ _ _
    · apply sat_f
      · (repeat' (first | with_reducible exact hlen | walk_at "ev1"))
        simp; omega
      apply sat_eq
      · (walk_at "evs")
      · refine ⟨_, _, rfl, h, p, _, _, _, _, _, _, rfl, rfl, ⟨hok, hsum, hle⟩, fun _ z => ?_⟩
        subst z
        simp [psum] at hsum
        simp at h30
        omega
  · rintro ρ st' ⟨h, p, o6, o7, o8, o9, o10, o11, rfl, rfl, ⟨hok, hsum, hle⟩, hne⟩
    have hne : h ≠ [] := hne (by simp [rangeW_len]; omega)
    refine sat_while (fun n ρ st' => ∃ (h : List Stm) (o10 : Option W), ρ = [some (.loc d), some (.int m), some (.str pool), some (.loc st.length), some (.loc (st.length + 1)), some (.int p), o6, o7, o8, o9, o10, o11] ∧ st' = st ++ [.lst (WRD.map W.str), .lst (h.map Stm.w)] ∧ (∀ s ∈ h, s.ok) ∧ psum h + h.length ≤ 31 ∧ h ≠ [] ∧ h.length = n) h.length
      ⟨h, o10, rfl, rfl, hok, by omega, hne, rfl⟩ ?_ ?_
    · rintro n ρ st' ⟨h, o10, rfl, rfl, hok, hle, hne, hn⟩
      have hhp : (st ++ [Cell.lst (WRD.map W.str), Cell.lst (h.map Stm.w)])[st.length + 1]? = some (.lst (h.map Stm.w)) := by rw [cell_at]; rfl
      have hlen := o_lenL (lstOf_l hhp)
      rw [List.length_map] at hlen
      by_cases h1 : 1 < h.length
      · right
        constructor
        · (repeat' (first | with_reducible exact hlen | walk_at "ev1"))
          exact decide_eq_true (by omega)
        obtain ⟨h', x, y, rfl⟩ : ∃ h' x y, h = h' ++ [x, y] := by
          refine ⟨h.dropLast.dropLast, h.dropLast.getLast (by intro z; have := congrArg List.length z; simp at this; omega), h.getLast hne, ?_⟩
          rw [show ∀ (a : List Stm) (b c : Stm), a ++ [b, c] = (a ++ [b]) ++ [c] from fun _ _ _ => by simp, List.dropLast_concat_getLast, List.dropLast_concat_getLast]
        have hpop : (st ++ [Cell.lst (WRD.map W.str), Cell.lst ((h' ++ [x, y]).map Stm.w)])[st.length + 1]? = some (.lst ((h'.map Stm.w ++ [x.w]) ++ [y.w])) := by rw [hhp]; simp
        apply sat_seq
        · (repeat' (first | with_reducible exact k_isLst hhp | with_reducible exact o_pop hpop | walk_at "ev1"))
        rw [cell_set]
        have hc2 : (st ++ [Cell.lst (WRD.map W.str), Cell.lst ((h' ++ [x, y]).map Stm.w)].set 1 (.lst (h'.map Stm.w ++ [x.w])))[st.length + 1]? = some (.lst (h'.map Stm.w ++ [x.w])) := by rw [cell_at]; rfl
        have hc3 : (st ++ [Cell.lst (WRD.map W.str), Cell.lst ((h' ++ [x, y]).map Stm.w)].set 1 (.lst (h'.map Stm.w ++ [x.w])))[st.length]? = some (.lst (WRD.map W.str)) := by rw [cell_at0]; rfl
        have hl2 := o_lenL (lstOf_l hc2)
        obtain ⟨k, hk, ek⟩ : ∃ k, k ∈ JN ∧ atI (WRD.map W.str) (8 + (((h'.map Stm.w ++ [x.w]).length : Nat) : Int) % 2) = some (.str k) := by
          obtain z | z : (((h'.map Stm.w ++ [x.w]).length : Nat) : Int) % 2 = 0 ∨ (((h'.map Stm.w ++ [x.w]).length : Nat) : Int) % 2 = 1 := by omega
          · rw [z]; exact ⟨[97, 110, 100], by decide, rfl⟩
          · rw [z]; exact ⟨[111, 114], by decide, rfl⟩
        apply sat_eq
        · (repeat' (first | with_reducible exact hl2 | with_reducible exact o_ixL (lstOf_l hc3) ek | with_reducible exact o_ixL (lstOf_l hc2) at_last | with_reducible exact o_putL hc2 ix_last | walk_at "ev1"))
        · refine ⟨_, _, rfl, (h' ++ [x]).length, by rw [← hn]; simp, h' ++ [.jn k x y], _, rfl, ?_, fun s hs => ?_, ?_, by simp, by simp⟩
          · rw [cell_set, show (h'.map Stm.w).length = h'.length from List.length_map _]
            simp [Stm.w]
          · rcases List.mem_append.mp hs with hs | hs
            · exact hok s (List.mem_append_left _ hs)
            · rw [List.mem_singleton.mp hs]
              exact ⟨hk, hok x (by simp), hok y (by simp)⟩
          · simp [psum, Stm.parts] at hle ⊢; omega
      · left
        (repeat' (first | with_reducible exact hlen | walk_at "ev1"))
        exact decide_eq_false (by omega)
    · rintro n ρ st' ⟨h, o10, rfl, rfl, hok, hle, hne, hn⟩ ht
      have hhp : (st ++ [Cell.lst (WRD.map W.str), Cell.lst (h.map Stm.w)])[st.length + 1]? = some (.lst (h.map Stm.w)) := by rw [cell_at]; rfl
      have hlen := o_lenL (lstOf_l hhp)
      rw [List.length_map] at hlen
      by_cases h1 : 1 < h.length
      · exfalso
        have : (asB (e2 wGt (eCall bLen (aCons (eVar 4) aNil)) (eC (.int 1)))) [some (.loc d), some (.int m), some (.str pool), some (.loc st.length), some (.loc (st.length + 1)), some (.int p), o6, o7, o8, o9, o10, o11] (st ++ [Cell.lst (WRD.map W.str), Cell.lst (h.map Stm.w)]) = .ok true (st ++ [Cell.lst (WRD.map W.str), Cell.lst (h.map Stm.w)]) := by
          (repeat' (first | with_reducible exact hlen | walk_at "ev1"))
          exact decide_eq_true (by omega)
        rw [this] at ht
        cases ht
      · obtain ⟨x, rfl⟩ : ∃ x, h = [x] := by
          match h, hne, h1 with
          | [x], _, _ => exact ⟨x, rfl⟩
          | _ :: _ :: _, _, z => simp at z
        apply sat_ret
        · (repeat' (first | with_reducible exact o_ixL (lstOf_l hhp) (show atI ([x].map Stm.w) 0 = some x.w from rfl) | walk_at "ev1"))
        · refine ⟨_, _, rfl, ⟨_, rfl⟩, by simp [undWs, Stm.und], x, rfl, hok x (by simp), ?_⟩
          simp [psum] at hle; omega
end P
set_option Elab.async false
set_option linter.all false
set_option maxRecDepth 100000
set_option maxHeartbeats 4000000
namespace P
open PySem L2
theorem one_of_ok {st : List Cell} {n : Nat} {ns : List Int} (h : st[n]? = some (.ro (ns.map W.int))) (k : Nat) (hk : k ≤ 100) : ∃ s : Stm, s.ok ∧ s.parts ≤ 30 ∧ f__law_one_of [.loc n, .int k] st = .ok s.w st := by
  suffices hh : Sat (rtP fun w st' => (∃ x, st' = st ++ x) ∧ undWs st.length [w] = true ∧ ∃ s : Stm, w = s.w ∧ s.ok ∧ s.parts ≤ 30) (g__law_one_of ([W.loc n, .int k].map some ++ List.replicate (5 - 2) none) st) by
    obtain ⟨w, ⟨l, rfl, h1, h2⟩, e⟩ := run_val hh
    exact ⟨l, h1, h2, e⟩
  obtain ⟨c0, e0⟩ := cell_ok h k
  obtain ⟨d2, l2, p2, e1⟩ := draws_ok c0 (100003 + 500 * k) 2 (by omega) st
  have e1 : f__law_draws [.int c0, .int 2, .int (100003 + 500 * k)] st = _ := e1
  obtain ⟨a, b, rfl⟩ : ∃ a b, d2 = [a, b] := by
    match d2, l2 with
    | [a, b], _ => exact ⟨a, b, rfl⟩
  apply sat_seq
  · (walk_at "evs")
    exact .inl (by decide)
  have hd2 : (st ++ [Cell.lst ([a, b].map W.int)])[st.length]? = some (.lst ([a, b].map W.int)) := by rw [cell_at0]; rfl
  generalize hs1 : st ++ [Cell.lst ([a, b].map W.int)] = s1 at hd2
  have h1 : s1[n]? = some (.ro (ns.map W.int)) := by rw [← hs1]; exact cell_old h
  obtain ⟨qa, hqa, ea⟩ : ∃ q : Nat, q < 8 ∧ a % 8 = q := ⟨(a % 8).toNat, by omega, by omega⟩
  obtain ⟨c1, e2⟩ := cell_ok h1 ((k : Int) + 1)
  obtain ⟨pl, lp, pp, e3⟩ := pool_ok c1 (200017 + 500 * k) (1 + qa) (by omega) s1
  have ix0 : wIx (.loc st.length) (.int 0) s1 = .ok (.int a) s1 := o_ixL (lstOf_l hd2) rfl
  have ix1 : wIx (.loc st.length) (.int 1) s1 = .ok (.int b) s1 := o_ixL (lstOf_l hd2) rfl
  rw [show ((1 + qa : Nat) : Int) = 1 + a % 8 by omega] at e3
  apply sat_seq
  · (walk_at "evs")
    exact .inl (by decide)
  obtain ⟨c2, e4⟩ := cell_ok h1 ((k : Int) + 2)
  obtain ⟨da, la, _, e5⟩ := draws_ok c2 (300007 + 500 * k) 45 (by omega) s1
  have e5 : f__law_draws [.int c2, .int 45, .int (300007 + 500 * k)] s1 = _ := e5
  apply sat_seq
  · (walk_at "evs")
    exact .inl (by decide)
  have hda : (s1 ++ [Cell.lst (da.map W.int)])[s1.length]? = some (.lst (da.map W.int)) := by rw [cell_at0]; rfl
  generalize hs2 : s1 ++ [Cell.lst (da.map W.int)] = s2 at hda
  have h2 : s2[n]? = some (.ro (ns.map W.int)) := by rw [← hs2]; exact cell_old h1
  have hd3 : s2[st.length]? = some (.lst ([a, b].map W.int)) := by rw [← hs2]; exact cell_old hd2
  obtain ⟨c3, e6⟩ := cell_ok h2 ((k : Int) + 3)
  obtain ⟨db, lb, _, e7⟩ := draws_ok c3 (400009 + 500 * k) 45 (by omega) s2
  have e7 : f__law_draws [.int c3, .int 45, .int (400009 + 500 * k)] s2 = _ := e7
  have g1 : (s2 ++ [Cell.lst (db.map W.int)])[s1.length]? = some (.lst (da.map W.int)) := cell_old hda
  have g2 : (s2 ++ [Cell.lst (db.map W.int)])[s2.length]? = some (.lst (db.map W.int)) := by rw [cell_at0]; rfl
  have hsz : (da.map W.int ++ db.map W.int).length ≤ LIM := by simp only [List.length_append, List.length_map, la, lb]; decide
  have e8 := o_addL g1 g2 hsz
  apply sat_seq
  · (walk_at "evs")
    exact .inl (by decide)
  have g3 : (s2 ++ [Cell.lst (db.map W.int)] ++ [Cell.lst (da.map W.int ++ db.map W.int)])[(s2 ++ [Cell.lst (db.map W.int)]).length]? = some (.lst ((da ++ db).map W.int)) := by rw [cell_at0]; simp
  have g4 : (s2 ++ [Cell.lst (db.map W.int)] ++ [Cell.lst (da.map W.int ++ db.map W.int)])[st.length]? = some (.lst ([a, b].map W.int)) := cell_old (cell_old hd3)
  obtain ⟨qb, hqb, eb⟩ : ∃ q : Nat, q < 30 ∧ b % 30 = q := ⟨(b % 30).toNat, by omega, by omega⟩
  obtain ⟨s, hs, hs2', e9⟩ := built_ok (m := 1 + qb) (pool := pl) g3 (by simp [la, lb]) (by omega) (by omega) (by omega) (by omega) pp
  rw [show ((1 + qb : Nat) : Int) = 1 + b % 30 by omega] at e9
  have ix2 := o_ixL (q := 1) (w := .int b) (lstOf_l g4) rfl
  apply sat_ret
  · (repeat' (first | with_reducible exact e9 | walk_at "ev1"))
  · exact ⟨_, _, rfl, ⟨_, by rw [← hs2, ← hs1]; simp only [List.append_assoc]; rfl⟩, by simp [undWs, Stm.und], s, rfl, hs, hs2'⟩
namespace Stm
def words : Stm → List (List Nat)
  | one a => [ONE, [a]]
  | two k a b => [[a], k, [b]]
  | neg s => NOT :: s.words
  | bnd k a s => k :: [a] :: s.words
  | jn k s t => [40] :: (s.words ++ k :: (t.words ++ [[41]]))
def txt : Stm → List Nat
  | one a => ONE ++ 32 :: [a]
  | two k a b => a :: 32 :: (k ++ 32 :: [b])
  | neg s => NOT ++ 32 :: s.txt
  | bnd k a s => k ++ 32 :: a :: 32 :: s.txt
  | jn k s t => 40 :: 32 :: (s.txt ++ 32 :: (k ++ 32 :: (t.txt ++ [32, 41])))
theorem len_le : ∀ s : Stm, s.ok → s.txt.length ≤ 9 * s.parts
  | one a, h => by simp [txt, parts]
  | two k a b, h => by
    have : k.length ≤ 5 := by have := h.1; simp at this; rcases this with rfl | rfl | rfl | rfl <;> simp
    simp [txt, parts]; omega
  | neg s, h => by have := len_le s h; simp [txt, parts]; omega
  | bnd k a s, h => by
    have := len_le s h.2.2
    have : k.length ≤ 4 := by have := h.1; simp at this; rcases this with rfl | rfl <;> simp
    simp [txt, parts]; omega
  | jn k s t, h => by
    have := len_le s h.2.1
    have := len_le t h.2.2
    have : k.length ≤ 3 := by have := h.1; simp at this; rcases this with rfl | rfl <;> simp
    simp [txt, parts]; omega
end Stm
end P
set_option Elab.async false
set_option linter.all false
set_option maxRecDepth 100000
set_option maxHeartbeats 4000000
namespace P
open PySem L2
theorem parts_pos : ∀ s : Stm, 1 ≤ s.parts
  | .one a => by simp [Stm.parts]
  | .two k a b => by simp [Stm.parts]
  | .neg s => by simp [Stm.parts]
  | .bnd k a s => by simp [Stm.parts]
  | .jn k s t => by simp [Stm.parts]
theorem written_ok : ∀ (s : Stm), s.ok → s.parts ≤ 100 → ∀ k, s.parts ≤ k → ∀ st, f__law_written k [s.w] st = .ok (.str s.txt) st
  | .one a, h, hp, k + 1, hk, st => by
    refine run_is (N := 1) (ws := [(Stm.one a).w]) (body := g__law_written (f__law_written k)) ?_ rfl
    simp only [Stm.w]
    (walk_at "go")
    exact ⟨_, _, rfl, rfl, [], by simp⟩
  | .two k a b, h, hp, n + 1, hk, st => by
    refine run_is (N := 1) (ws := [(Stm.two k a b).w]) (body := g__law_written (f__law_written n)) ?_ rfl
    have := h.1; simp at this
    simp only [Stm.w]
    rcases this with rfl | rfl | rfl | rfl <;> (walk_at "go") <;> exact ⟨_, _, rfl, rfl, [], by simp⟩
  | .neg s, h, hp, n + 1, hk, st => by
    simp only [Stm.parts] at hp hk
    have ih := written_ok s h (by omega) n (by omega) st
    have hl := s.len_le h
    refine run_is (N := 1) (ws := [(Stm.neg s).w]) (body := g__law_written (f__law_written n)) ?_ rfl
    simp only [Stm.w]
    apply sat_seq_t
    · (walk_at "tst")
    apply sat_seq_ret
    · (walk_at "evs")
      (walk_at "len")
    exact ⟨_, _, rfl, rfl, [], by simp⟩
  | .bnd k a s, h, hp, n + 1, hk, st => by
    simp only [Stm.parts] at hp hk
    have ih := written_ok s h.2.2 (by omega) n (by omega) st
    have hl := s.len_le h.2.2
    refine run_is (N := 1) (ws := [(Stm.bnd k a s).w]) (body := g__law_written (f__law_written n)) ?_ rfl
    have := h.1; simp at this
    simp only [Stm.w]
    rcases this with rfl | rfl <;> (walk_at "go")
    all_goals (apply sat_seq_ret; (focus ((walk_at "evs") <;> (walk_at "len"))); exact ⟨_, _, rfl, by simp [Stm.txt], [], by simp⟩)
  | .jn k s t, h, hp, n + 1, hk, st => by
    simp only [Stm.parts] at hp hk
    have ih := written_ok s h.2.1 (by omega) n (by omega) st
    have ih2 := written_ok t h.2.2 (by omega) n (by omega) st
    have hl := s.len_le h.2.1
    have hl2 := t.len_le h.2.2
    refine run_is (N := 1) (ws := [(Stm.jn k s t).w]) (body := g__law_written (f__law_written n)) ?_ rfl
    have := h.1; simp at this
    simp only [Stm.w]
    rcases this with rfl | rfl <;> (walk_at "go")
    all_goals (apply sat_seq_ret; (focus ((walk_at "evs") <;> (walk_at "len"))); exact ⟨_, _, rfl, by simp [Stm.txt], [], by simp⟩)
  | .one a, _, _, 0, hk, _ => by simp [Stm.parts] at hk
  | .two k a b, _, _, 0, hk, _ => by simp [Stm.parts] at hk
  | .neg s, _, _, 0, hk, _ => by simp [Stm.parts] at hk
  | .bnd k a s, _, _, 0, hk, _ => by simp [Stm.parts] at hk
  | .jn k s t, _, _, 0, hk, _ => by simp [Stm.parts] at hk
theorem in_t {ls : List (List Nat)} {x : List Nat} (st : List Cell) (hx : x.length ≤ LIM) {b : Bool} (h : inS ls (.str x) = b) : wIn false (.str x) (.tup (ls.map W.str)) st = .ok (.bl b) st := by
  rw [in_S (x := .str x) hx]; simp [h]
theorem in_TWO {x : List Nat} (st : List Cell) (hx : x.length ≤ LIM) {b : Bool} (h : inS TWO (.str x) = b) : wIn false (.str x) c_TWO_LETTERED st = .ok (.bl b) st := in_t (ls := TWO) st hx h
theorem in_JN {x : List Nat} (st : List Cell) (hx : x.length ≤ LIM) {b : Bool} (h : inS JN (.str x) = b) : wIn false (.str x) c_JOINING st = .ok (.bl b) st := in_t (ls := JN) st hx h
/-! ### the same -/
theorem same_str (l : List Nat) (k : Nat) (st : List Cell) : f__law_same (k + 1) [.str l, .str l] st = .ok (.bl true) st := by
  refine run_is (N := 3) (ws := [.str l, .str l]) (body := g__law_same (f__law_same k)) ?_ rfl
  (walk_at "go")
  apply sat_ret
  · apply k_and_t
    · (walk_at "evs")
    · (walk_at "evs")
  · exact ⟨_, _, rfl, by simp, [], by simp⟩
theorem same_tup {ws : List W} {k : Nat} {st : List Cell} (hl : ws.length ≤ 1000) (h : ∀ w ∈ ws, f__law_same k [w, w] st = .ok (.bl true) st) : f__law_same (k + 1) [.tup ws, .tup ws] st = .ok (.bl true) st := by
  refine run_is (N := 3) (ws := [.tup ws, .tup ws]) (body := g__law_same (f__law_same k)) ?_ rfl
  apply sat_seq_t
  · (walk_at "evs")
  apply sat_assoc
  apply sat_seq_f
  · apply k_bor_f
    · (walk_at "evs")
    · (walk_at "evs")
      simp
  apply sat_next
  apply sat_assoc
  refine sat_for (fun i ρ st' => ∃ o, ρ = [some (.tup ws), some (.tup ws), o] ∧ st' = st) (i_range1 (by (walk_at "evs")) (by omega)) ⟨none, rfl, rfl⟩ (fun _ _ _ _ => trivial) ?_ ?_
  · rintro i w ρ st' hw ⟨o, rfl, rfl⟩
    obtain ⟨hi, rfl⟩ := rangeW_at hw
    refine ⟨_, rfl, ?_⟩
    have hi' : i < ws.length := by simpa using hi
    have hat : wIx (.tup ws) (.int (0 + (i : Int))) st' = .ok ws[i] st' := o_ixT (by rw [Int.zero_add]; exact at_nat (by simp [hi']))
    have hs := h ws[i] (List.getElem_mem _)
    apply sat_f
    · (walk_at "evs")
    apply sat_eq
    · (walk_at "evs")
    · exact ⟨_, _, rfl, _, rfl, rfl⟩
  · rintro ρ st' ⟨o, rfl, rfl⟩
    apply sat_seq_ret
    · (walk_at "evs")
    · exact ⟨_, _, rfl, rfl, [], by simp⟩
theorem same_stm : ∀ (s : Stm) (k : Nat), s.parts + 1 ≤ k → ∀ st, f__law_same k [s.w, s.w] st = .ok (.bl true) st
  | .one a, k + 1, hk, st => by
    simp only [Stm.parts] at hk
    obtain ⟨k, rfl⟩ : ∃ j, k = j + 1 := ⟨k - 1, by omega⟩
    refine same_tup (by simp) fun w hw => ?_
    simp at hw
    rcases hw with rfl | rfl <;> exact same_str _ _ _
  | .two q a b, k + 1, hk, st => by
    simp only [Stm.parts] at hk
    obtain ⟨k, rfl⟩ : ∃ j, k = j + 1 := ⟨k - 1, by omega⟩
    refine same_tup (by simp) fun w hw => ?_
    simp at hw
    rcases hw with rfl | rfl | rfl <;> exact same_str _ _ _
  | .neg s, k + 1, hk, st => by
    simp only [Stm.parts] at hk
    obtain ⟨k, rfl⟩ : ∃ j, k = j + 1 := ⟨k - 1, by omega⟩
    refine same_tup (by simp) fun w hw => ?_
    simp at hw
    rcases hw with rfl | rfl
    · exact same_str _ _ _
    · exact same_stm s _ (by omega) _
  | .bnd q a s, k + 1, hk, st => by
    simp only [Stm.parts] at hk
    obtain ⟨k, rfl⟩ : ∃ j, k = j + 1 := ⟨k - 1, by omega⟩
    refine same_tup (by simp) fun w hw => ?_
    simp at hw
    rcases hw with rfl | rfl | rfl
    · exact same_str _ _ _
    · exact same_str _ _ _
    · exact same_stm s _ (by omega) _
  | .jn q s t, k + 1, hk, st => by
    simp only [Stm.parts] at hk
    obtain ⟨k, rfl⟩ : ∃ j, k = j + 1 := ⟨k - 1, by omega⟩
    refine same_tup (by simp) fun w hw => ?_
    simp at hw
    rcases hw with rfl | rfl | rfl
    · exact same_str _ _ _
    · exact same_stm s _ (by omega) _
    · exact same_stm t _ (by omega) _
  | .one a, 0, hk, _ => by simp at hk
  | .two k a b, 0, hk, _ => by simp at hk
  | .neg s, 0, hk, _ => by simp at hk
  | .bnd k a s, 0, hk, _ => by simp at hk
  | .jn k s t, 0, hk, _ => by simp at hk
end P
set_option Elab.async false
set_option linter.all false
set_option maxRecDepth 100000
set_option maxHeartbeats 4000000
namespace P
open PySem L2
def letW : W → Bool
  | .str [c] => decide (c ∈ LL)
  | _ => false
def saidW : W → Bool
  | .tup _ => true
  | _ => false
theorem said_ok {x : W} (h : Gd x) (st : List Cell) : f_is_said [x] st = .ok (.bl (saidW x)) st := by
  cases x with
  | str l => apply run_self'; apply sat_ret; (· (walk_at "evs")); exact ⟨_, _, rfl, rfl, rfl⟩
  | tup l => apply run_self'; apply sat_ret; (· (walk_at "evs")); exact ⟨_, _, rfl, rfl, rfl⟩
  | _ => exact h.elim
theorem lettered_ok {x : W} (h : Gd x) (st : List Cell) : f_is_lettered [x] st = .ok (.bl (letW x)) st := by
  have hs := said_ok h st
  cases x with
  | tup l =>
    apply run_self'; apply sat_ret
    · apply k_and_f
      (walk_at "evs")
    · exact ⟨_, _, rfl, rfl, rfl⟩
  | str l =>
    have hl : l.length ≤ LIM := h
    have e : f_is_letter [.str l] st = .ok (.bl (letW (.str l))) st := by
      by_cases h1 : l.length = 1
      · obtain ⟨c, rfl⟩ := List.length_eq_one_iff.mp h1
        apply run_self'; apply sat_ret
        · apply k_and_t
          · (repeat' (first | with_reducible exact o_lenS hl | walk_at "ev1"))
          · apply k_2
            · (walk_at "evs")
            · (walk_at "evs")
            · show R.ok (W.bl (if false = true then _ else _)) st = _; rfl
        · exact ⟨_, _, rfl, rfl, rfl⟩
      · apply run_self'; apply sat_ret
        · apply k_and_f
          · (repeat' (first | with_reducible exact o_lenS hl | walk_at "ev1"))
            rw [beq_eq_false_iff_ne]; omega
        · refine ⟨_, _, rfl, ?_, rfl⟩
          match l, h1 with
          | [], _ => rfl
          | [_], z => exact absurd rfl z
          | _ :: _ :: _, _ => rfl
    apply run_self'; apply sat_ret
    · apply k_and_t
      · (walk_at "evs")
      · (walk_at "evs")
    · exact ⟨_, _, rfl, rfl, rfl⟩
  | _ => exact h.elim
/-! ### the ends, of items from the last on -/
def plainR : List W → W
  | x1 :: x2 :: r => if isS ONE x2 && letW x1 then .tup [.str ONE, x1] else match r with
    | x3 :: _ => if inS TWO x2 && (letW x3 && letW x1) then .tup [x2, x3, x1] else .non
    | [] => .non
  | _ => .non
def frontR : List W → W
  | x1 :: r => if !saidW x1 then .non else match r with
    | x2 :: r2 => if isS NOT x2 then .tup [.str NOT, x1] else (match r2 with
      | x3 :: _ => if inS BND x3 && letW x2 then .tup [x3, x2, x1] else .non
      | [] => .non)
    | [] => .non
  | [] => .non
def brackR : List W → W
  | x1 :: x2 :: x3 :: x4 :: x5 :: _ => if !isS [41] x1 || (!isS [40] x5 || !inS JN x3) then .non else if !saidW x4 || !saidW x2 then .non else .tup [x3, x4, x2]
  | _ => .non
theorem in_BND' {x : W} (h : Gd x) (st : List Cell) : wIn false x c_BINDING st = .ok (.bl (inS BND x)) st := in_S h false BND st
theorem in_TWO' {x : W} (h : Gd x) (st : List Cell) : wIn false x c_TWO_LETTERED st = .ok (.bl (inS TWO x)) st := in_S h false TWO st
theorem in_JN' {x : W} (h : Gd x) (st : List Cell) : wIn false x c_JOINING st = .ok (.bl (inS JN x)) st := in_S h false JN st
theorem nin_JN' {x : W} (h : Gd x) (st : List Cell) : wIn true x c_JOINING st = .ok (.bl (!inS JN x)) st := in_S h true JN st
section
variable {st : List Cell} {n : Nat} {r : List W} {x x1 x2 x3 x4 x5 : W}
theorem ix_1 (h : st[n]? = some (.lst (x1 :: r).reverse)) : wIx (.loc n) (.int (-1)) st = .ok x1 st := o_ixL (lstOf_l h) (at_neg (q := 0) (by simp))
theorem ix_2 (h : st[n]? = some (.lst (x1 :: x2 :: r).reverse)) : wIx (.loc n) (.int (-2)) st = .ok x2 st := o_ixL (lstOf_l h) (at_neg (q := 1) (by simp))
theorem ix_3 (h : st[n]? = some (.lst (x1 :: x2 :: x3 :: r).reverse)) : wIx (.loc n) (.int (-3)) st = .ok x3 st := o_ixL (lstOf_l h) (at_neg (q := 2) (by simp))
theorem ix_4 (h : st[n]? = some (.lst (x1 :: x2 :: x3 :: x4 :: r).reverse)) : wIx (.loc n) (.int (-4)) st = .ok x4 st := o_ixL (lstOf_l h) (at_neg (q := 3) (by simp))
theorem ix_5 (h : st[n]? = some (.lst (x1 :: x2 :: x3 :: x4 :: x5 :: r).reverse)) : wIx (.loc n) (.int (-5)) st = .ok x5 st := o_ixL (lstOf_l h) (at_neg (q := 4) (by simp))
theorem len_r (h : st[n]? = some (.lst r.reverse)) : bLen [.loc n] st = .ok (.int (r.length : Nat)) st := by have := o_lenL (lstOf_l h); rw [List.length_reverse] at this; exact this
theorem plain_ok (h : st[n]? = some (.lst r.reverse)) (hg : ∀ x ∈ r, Gd x) (hr : r ≠ []) : f_plain_end [.loc n] st = .ok (plainR r) st := by
  have hlen := len_r h
  match r, hr with
  | [x1], _ =>
    apply run_self'
    apply sat_seq_f
    · apply k_bnd_f
      (walk_at "evs")
    apply sat_next
    apply sat_seq_f
    · apply k_bnd_f
      (walk_at "evs")
    apply sat_next
    apply sat_ret
    · (walk_at "evs")
    · exact ⟨_, _, rfl, rfl, rfl⟩
  | [x1, x2], _ =>
    have i1 := ix_1 h
    have i2 := ix_2 h
    have l1 := lettered_ok (hg x1 (by simp)) st
    have q2 := eq_S (hg x2 (by simp)) ONE st
    apply run_self'
    apply sat_seq_b
    · (walk_at "tb")
    · intro hk
      apply sat_seq_ret
      · (walk_at "evs")
      · exact ⟨_, _, rfl, by rw [Bool.and_eq_true] at hk; simp [plainR, hk.2], rfl⟩
    · intro hk
      have hk : (isS ONE x2 && letW x1) = false := by simpa using hk
      apply sat_next
      apply sat_seq_f
      · apply k_bnd_f
        (walk_at "evs")
      apply sat_next
      apply sat_ret
      · (walk_at "evs")
      · exact ⟨_, _, rfl, by simp [plainR, hk], rfl⟩
  | x1 :: x2 :: x3 :: r, _ =>
    have i1 := ix_1 h
    have i2 := ix_2 h
    have i3 := ix_3 h
    have l1 := lettered_ok (hg x1 (by simp)) st
    have l3 := lettered_ok (hg x3 (by simp)) st
    have q2 := eq_S (hg x2 (by simp)) ONE st
    have t2 := in_TWO' (hg x2 (by simp)) st
    have e2 : decide ((2 : Int) ≤ ((x1 :: x2 :: x3 :: r).length : Nat)) = true := decide_eq_true (by simp; omega)
    have e3 : decide ((3 : Int) ≤ ((x1 :: x2 :: x3 :: r).length : Nat)) = true := decide_eq_true (by simp; omega)
    apply run_self'
    apply sat_seq_b
    · apply k_bnd_t
      · (walk_at "evs")
      · (walk_at "tb")
    · intro hk
      apply sat_seq_ret
      · (walk_at "evs")
      · exact ⟨_, _, rfl, by simp [plainR, hk], rfl⟩
    · intro hk
      apply sat_next
      apply sat_seq_b
      · apply k_bnd_t
        · (walk_at "evs")
        · (walk_at "tb")
      · intro hk2
        apply sat_seq_ret
        · (walk_at "evs")
        · exact ⟨_, _, rfl, by simp only [plainR, hk, hk2]; rfl, rfl⟩
      · intro hk2
        apply sat_next
        apply sat_ret
        · (walk_at "evs")
        · exact ⟨_, _, rfl, by simp only [plainR, hk, hk2]; rfl, rfl⟩
end
end P
set_option Elab.async false
set_option linter.all false
set_option maxRecDepth 100000
set_option maxHeartbeats 4000000
namespace P
open PySem L2
section
variable {st : List Cell} {n : Nat} {r : List W} {x x1 x2 x3 x4 x5 : W}
theorem front_ok (h : st[n]? = some (.lst r.reverse)) (hg : ∀ x ∈ r, Gd x) (hr : r ≠ []) : f_front_end [.loc n] st = .ok (frontR r) st := by
  have hlen := len_r h
  match r, hr with
  | x1 :: r, _ =>
    have i1 := ix_1 h
    have s1 := said_ok (hg x1 (by simp)) st
    apply run_self'
    apply sat_seq_b
    · (walk_at "tb")
    · intro hk
      apply sat_seq_ret
      · (walk_at "evs")
      · exact ⟨_, _, rfl, by simp [frontR, hk], rfl⟩
    intro hk
    apply sat_next
    match r with
    | [] =>
      apply sat_seq_f
      · apply k_bnd_f
        (walk_at "evs")
      apply sat_next
      apply sat_seq_f
      · apply k_bnd_f
        (walk_at "evs")
      apply sat_next
      apply sat_ret
      · (walk_at "evs")
      · exact ⟨_, _, rfl, by simp [frontR, hk], rfl⟩
    | [x2] =>
      have i2 := ix_2 h
      have q2 := eq_S (hg x2 (by simp)) NOT st
      have e2 : decide ((2 : Int) ≤ (([x1, x2] : List W).length : Nat)) = true := decide_eq_true (by simp)
      apply sat_seq_b
      · apply k_bnd_t
        · (walk_at "evs")
        · (walk_at "tb")
      · intro hk2
        apply sat_seq_ret
        · (walk_at "evs")
        · exact ⟨_, _, rfl, by simp [frontR, hk, hk2], rfl⟩
      · intro hk2
        apply sat_next
        apply sat_seq_f
        · apply k_bnd_f
          (walk_at "evs")
        apply sat_next
        apply sat_ret
        · (walk_at "evs")
        · exact ⟨_, _, rfl, by simp [frontR, hk, hk2], rfl⟩
    | x2 :: x3 :: r =>
      have i2 := ix_2 h
      have i3 := ix_3 h
      have q2 := eq_S (hg x2 (by simp)) NOT st
      have l2 := lettered_ok (hg x2 (by simp)) st
      have t3 := in_BND' (hg x3 (by simp)) st
      have e2 : decide ((2 : Int) ≤ ((x1 :: x2 :: x3 :: r).length : Nat)) = true := decide_eq_true (by simp; omega)
      have e3 : decide ((3 : Int) ≤ ((x1 :: x2 :: x3 :: r).length : Nat)) = true := decide_eq_true (by simp; omega)
      apply sat_seq_b
      · apply k_bnd_t
        · (walk_at "evs")
        · (walk_at "tb")
      · intro hk2
        apply sat_seq_ret
        · (walk_at "evs")
        · exact ⟨_, _, rfl, by simp [frontR, hk, hk2], rfl⟩
      · intro hk2
        apply sat_next
        apply sat_seq_b
        · apply k_bnd_t
          · (walk_at "evs")
          · (walk_at "tb")
        · intro hk3
          apply sat_seq_ret
          · (walk_at "evs")
          · exact ⟨_, _, rfl, by simp only [frontR, hk, hk2, hk3]; rfl, rfl⟩
        · intro hk3
          apply sat_next
          apply sat_ret
          · (walk_at "evs")
          · exact ⟨_, _, rfl, by simp only [frontR, hk, hk2, hk3]; rfl, rfl⟩
theorem brack_ok (h : st[n]? = some (.lst r.reverse)) (hg : ∀ x ∈ r, Gd x) : f_bracket_end [.loc n] st = .ok (brackR r) st := by
  have hlen := len_r h
  by_cases h5 : r.length < 5
  · have e5 : decide (((r.length : Nat) : Int) < 5) = true := decide_eq_true (by omega)
    apply run_self'
    apply sat_seq_t
    · apply k_bor_t
      (walk_at "evs")
    apply sat_seq_ret
    · (walk_at "evs")
    · refine ⟨_, _, rfl, ?_, rfl⟩
      match r, h5 with
      | [], _ => rfl
      | [_], _ => rfl
      | [_, _], _ => rfl
      | [_, _, _], _ => rfl
      | [_, _, _, _], _ => rfl
      | _ :: _ :: _ :: _ :: _ :: _, z => simp at z; omega
  · match r, h5 with
    | [], z => simp at z
    | [_], z => simp at z
    | [_, _], z => simp at z
    | [_, _, _], z => simp at z
    | [_, _, _, _], z => simp at z
    | x1 :: x2 :: x3 :: x4 :: x5 :: r, _ =>
      have i1 := ix_1 h
      have i2 := ix_2 h
      have i3 := ix_3 h
      have i4 := ix_4 h
      have i5 := ix_5 h
      have q1 := ne_S (hg x1 (by simp)) [41] st
      have q5 := ne_S (hg x5 (by simp)) [40] st
      have t3 := nin_JN' (hg x3 (by simp)) st
      have s4 := said_ok (hg x4 (by simp)) st
      have s2 := said_ok (hg x2 (by simp)) st
      have e5 : decide ((((x1 :: x2 :: x3 :: x4 :: x5 :: r).length : Nat) : Int) < 5) = false := decide_eq_false (by simp; omega)
      apply run_self'
      apply sat_seq_b
      · apply k_bor_f
        · (walk_at "evs")
        · (walk_at "tb")
      · intro hk
        apply sat_seq_ret
        · (walk_at "evs")
        · exact ⟨_, _, rfl, by simp only [brackR, hk]; rfl, rfl⟩
      · intro hk
        apply sat_next
        apply sat_seq_b
        · (walk_at "tb")
        · intro hk2
          apply sat_seq_ret
          · (walk_at "evs")
          · exact ⟨_, _, rfl, by simp only [brackR, hk, hk2]; rfl, rfl⟩
        · intro hk2
          apply sat_next
          apply sat_ret
          · (walk_at "evs")
          · exact ⟨_, _, rfl, by simp only [brackR, hk, hk2]; rfl, rfl⟩
def endR (r : List W) : W := if !(plainR r).isNon then plainR r else if !(frontR r).isNon then frontR r else brackR r
theorem for_nx {f : FG} {body : FS} {w : W} {ws : List W} {ρ ρ' ρ2 : EnvW} {st2 : List Cell} (h1 : f w ρ = some ρ') (h2 : body ρ' st = .nx ρ2 st2) : forW f body none (w :: ws) ρ st = forW f body none ws ρ2 st2 := by
  conv => lhs; unfold forW
  rw [if_pos (show chkOk st none from trivial), h1]; simp only [h2]
theorem for_rt {f : FG} {body : FS} {w v : W} {ws : List W} {ρ ρ' : EnvW} {st2 : List Cell} (h1 : f w ρ = some ρ') (h2 : body ρ' st = .rt v st2) : forW f body none (w :: ws) ρ st = .rt v st2 := by
  unfold forW
  rw [if_pos (show chkOk st none from trivial), h1]; simp only [h2]
theorem for_nil {f : FG} {body : FS} {ρ : EnvW} : forW f body none [] ρ st = .nx ρ st := by
  unfold forW
  rw [if_pos (show chkOk st none from trivial)]
theorem end_ok (h : st[n]? = some (.lst r.reverse)) (hg : ∀ x ∈ r, Gd x) (hr : r ≠ []) : f_end_of [.loc n] st = .ok (endR r) st := by
  have a1 := plain_ok h hg hr
  have a2 := front_ok h hg hr
  have a3 := brack_ok h hg
  have loop : itAny (eTup (aCons (eDef 1 f_plain_end (aCons (eVar 0) aNil)) (aCons (eDef 1 f_front_end (aCons (eVar 0) aNil)) (aCons (eDef 1 f_bracket_end (aCons (eVar 0) aNil)) aNil)))) [some (.loc n), none] st = .ok ([plainR r, frontR r, brackR r], none) st := by
    apply i_any_t
    (walk_at "evs")
  have step : ∀ (x : W) (o : Option W), (x.isNon = false → (xIf (asB (eNotN (eVar 1))) (xRet (eVar 1)) xNext) [some (.loc n), some x] st = .rt x st) ∧ (x.isNon = true → (xIf (asB (eNotN (eVar 1))) (xRet (eVar 1)) xNext) [some (.loc n), some x] st = .nx [some (.loc n), some x] st) := by
    intro x o
    constructor
    · intro hx
      have hx' : (!x.isNon) = true := by rw [hx]; rfl
      apply k_if_t
      · (walk_at "evs")
      · (walk_at "evs")
    · intro hx
      have hx' : (!x.isNon) = false := by rw [hx]; rfl
      apply k_if_f
      · (walk_at "evs")
      · (walk_at "evs")
  apply run_self'
  unfold endR
  cases c1 : (plainR r).isNon with
  | false =>
    refine sat_eq (r' := .rt (plainR r) st) ?_ ⟨_, _, rfl, by simp, rfl⟩
    apply k_seqR
    rw [show ([W.loc n].map some ++ List.replicate (2 - [W.loc n].length) none : EnvW) = [some (.loc n), none] from rfl, xFor_nx loop]
    exact for_rt rfl ((step _ none).1 c1)
  | true =>
    cases c2 : (frontR r).isNon with
    | false =>
      refine sat_eq (r' := .rt (frontR r) st) ?_ ⟨_, _, rfl, by simp, rfl⟩
      apply k_seqR
      rw [show ([W.loc n].map some ++ List.replicate (2 - [W.loc n].length) none : EnvW) = [some (.loc n), none] from rfl, xFor_nx loop]
      rw [for_nx rfl ((step _ none).2 c1)]
      exact for_rt rfl ((step _ none).1 c2)
    | true =>
      cases c3 : (brackR r).isNon with
      | false =>
        refine sat_eq (r' := .rt (brackR r) st) ?_ ⟨_, _, rfl, by simp, rfl⟩
        apply k_seqR
        rw [show ([W.loc n].map some ++ List.replicate (2 - [W.loc n].length) none : EnvW) = [some (.loc n), none] from rfl, xFor_nx loop]
        rw [for_nx rfl ((step _ none).2 c1), for_nx rfl ((step _ none).2 c2)]
        exact for_rt rfl ((step _ none).1 c3)
      | true =>
        have e3 : brackR r = .non := by cases hb : brackR r <;> rw [hb] at c3 <;> first | rfl | cases c3
        refine sat_eq (r' := .rt .non st) ?_ ⟨_, _, rfl, by simp [e3], rfl⟩
        apply k_seq
        · rw [show ([W.loc n].map some ++ List.replicate (2 - [W.loc n].length) none : EnvW) = [some (.loc n), none] from rfl, xFor_nx loop]
          rw [for_nx rfl ((step _ none).2 c1), for_nx rfl ((step _ none).2 c2), for_nx rfl ((step _ none).2 c3)]
          exact for_nil
        · (walk_at "evs")
end
end P
set_option Elab.async false
set_option linter.all false
set_option maxRecDepth 100000
set_option maxHeartbeats 4000000
namespace P
open PySem L2
def AllG (r : List W) : Prop := (∀ x ∈ r, Gd x) ∧ r.length ≤ 5000
def wm : W → Nat
  | .tup (x :: ws) => if inS JN x then ws.length + 3 else ws.length + 1
  | _ => 0
/-- folding: how many steps, from what, to what -/
inductive Red : Nat → List W → List W → Prop
  | stop {r : List W} : AllG r → (endR r).isNon = true → Red 0 r r
  | step {n : Nat} {r r' : List W} {x : W} {ws : List W} : AllG r → endR r = .tup (x :: ws) → Gd x → wm (.tup (x :: ws)) ≤ r.length → Red n (.tup (x :: ws) :: r.drop (wm (.tup (x :: ws)))) r' → Red (n + 1) r r'
inductive Feed : List (List Nat) → List W → List W → Prop
  | nil {r : List W} : Feed [] r r
  | cons {n : Nat} {w : List Nat} {ws : List (List Nat)} {r r1 r' : List W} : Red n (.str w :: r) r1 → Feed ws r1 r' → Feed (w :: ws) r r'
theorem Feed.app {a b : List (List Nat)} {r r1 r' : List W} (h : Feed a r r1) (h2 : Feed b r1 r') : Feed (a ++ b) r r' := by
  induction h with
  | nil => exact h2
  | cons e _ ih => exact .cons e (ih h2)
def Ctx (r : List W) : Prop := ∀ x, r.head? = some x → isS ONE x = false ∧ inS TWO x = false
theorem end_word {w : List Nat} {r : List W} (h1 : letW (.str w) = false) (h2 : (w == [41]) = false) : endR (.str w :: r) = .non := by
  have e1 : plainR (.str w :: r) = .non := by
    unfold plainR
    split
    · rename_i x1 x2 r' e
      cases e
      rw [h1, Bool.and_false]
      simp only [Bool.false_eq_true, if_false]
      split
      · rw [Bool.and_false, Bool.and_false]; rfl
      · rfl
    · rfl
  have e2 : frontR (.str w :: r) = .non := rfl
  have e3 : brackR (.str w :: r) = .non := by
    unfold brackR
    split
    · rename_i e
      cases e
      rw [show isS [41] (.str w) = false from h2]; rfl
    · rfl
  unfold endR
  rw [e1, e2, e3]; rfl
theorem let_of {a : Nat} (h : a ∈ LL) : letW (.str [a]) = true := decide_eq_true h
theorem end_letter {a : Nat} {r : List W} (ha : a ∈ LL) (hc : Ctx r) : endR (.str [a] :: r) = .non := by
  have e1 : plainR (.str [a] :: r) = .non := by
    unfold plainR
    split
    · rename_i x1 x2 r' e
      cases e
      obtain ⟨h1, h2⟩ := hc x2 rfl
      rw [h1, Bool.false_and]
      simp only [Bool.false_eq_true, if_false]
      split
      · rw [h2, Bool.false_and]; rfl
      · rfl
    · rfl
  have e2 : frontR (.str [a] :: r) = .non := rfl
  have e3 : brackR (.str [a] :: r) = .non := by
    unfold brackR
    split
    · rename_i e
      cases e
      rw [show isS [41] (.str [a]) = false from by
        show ([a] == [41]) = false
        rw [beq_eq_false_iff_ne]
        intro z
        have : a = 41 := by simpa using z
        subst this
        exact absurd ha (by decide)]
      rfl
    · rfl
  unfold endR
  rw [e1, e2, e3]; rfl
theorem gd_str {l : List Nat} (h : l.length ≤ 10) : Gd (.str l) := Nat.le_trans h (by decide)
theorem gd_stm {s : Stm} (h : s.parts ≤ 100) : Gd s.w := by cases s <;> trivial
theorem said_stm (s : Stm) : saidW s.w = true := by cases s <;> rfl
theorem isS_stm (l : List Nat) (s : Stm) : isS l s.w = false := by cases s <;> rfl
theorem inS_stm (ls : List (List Nat)) (s : Stm) : inS ls s.w = false := by
  unfold inS
  rw [List.any_eq_false]
  intro x _
  rw [isS_stm]; decide
theorem let_stm (s : Stm) : letW s.w = false := by cases s <;> rfl
theorem AllG.cons {x : W} {r : List W} (h : AllG r) (hx : Gd x) (hl : r.length < 5000) : AllG (x :: r) := ⟨fun y hy => by
  rcases List.mem_cons.mp hy with rfl | hy
  · exact hx
  · exact h.1 y hy, by simp; omega⟩
theorem endR_of {r : List W} {e : W} (h : plainR r = e) (hn : e.isNon = false) : endR r = e := by unfold endR; rw [h, hn]; rfl
theorem endR_of2 {r : List W} {e : W} (h : plainR r = .non) (h2 : frontR r = e) (hn : e.isNon = false) : endR r = e := by unfold endR; rw [h, h2, hn]; rfl
theorem endR_of3 {r : List W} {e : W} (h : plainR r = .non) (h2 : frontR r = .non) (h3 : brackR r = e) : endR r = e := by unfold endR; rw [h, h2, h3]; rfl
theorem feed_stm : ∀ (s : Stm) (r : List W), s.ok → s.parts ≤ 100 → AllG r → r.length + 5 * s.parts ≤ 5000 → Ctx r → ∀ n r', Red n (s.w :: r) r' → Feed s.words r r'
  | .one a, r, ho, hp, hg, hl, hc, n, r', hr => by
    simp only [Stm.parts] at hl
    have g1 : AllG (.str ONE :: r) := hg.cons (gd_str (by decide)) (by omega)
    refine .cons (r1 := .str ONE :: r) (.stop g1 (by rw [end_word (by decide) (by decide)]; rfl)) ?_
    refine .cons (n := n + 1) (.step (n := n) (g1.cons (gd_str (by simp)) (by simp; omega)) (endR_of (e := (Stm.one a).w) ?_ rfl) (gd_str (by decide)) (by simp [wm, inS, isS]) ?_) .nil
    · simp only [plainR, let_of ho, Stm.w]; rfl
    · exact hr
  | .two k a b, r, ho, hp, hg, hl, hc, n, r', hr => by
    simp only [Stm.parts] at hl
    have hk := ho.1; simp at hk
    have g1 : AllG (.str [a] :: r) := hg.cons (gd_str (by simp)) (by omega)
    have hk5 : k.length ≤ 10 := by rcases hk with rfl | rfl | rfl | rfl <;> decide
    have g2 : AllG (.str k :: .str [a] :: r) := g1.cons (gd_str hk5) (by simp; omega)
    refine .cons (r1 := .str [a] :: r) (.stop g1 (by rw [end_letter ho.2.1 hc]; rfl)) ?_
    refine .cons (r1 := .str k :: .str [a] :: r) (.stop g2 (by rw [end_word (by rcases hk with rfl | rfl | rfl | rfl <;> decide) (by rcases hk with rfl | rfl | rfl | rfl <;> decide)]; rfl)) ?_
    refine .cons (n := n + 1) (.step (n := n) (g2.cons (gd_str (by simp)) (by simp; omega)) (endR_of (e := (Stm.two k a b).w) ?_ rfl) (gd_str hk5) ?_ ?_) .nil
    · have h1 : isS ONE (.str k) = false := by rcases hk with rfl | rfl | rfl | rfl <;> decide
      have h2 : inS TWO (.str k) = true := by rcases hk with rfl | rfl | rfl | rfl <;> decide
      simp only [plainR, let_of ho.2.1, let_of ho.2.2, h1, h2, Stm.w]; rfl
    · rcases hk with rfl | rfl | rfl | rfl <;> simp [wm, inS, isS]
    · have : wm (Stm.two k a b).w = 3 := by rcases hk with rfl | rfl | rfl | rfl <;> rfl
      rw [show (W.tup [W.str k, W.str [a], W.str [b]]) = (Stm.two k a b).w from rfl, this]
      exact hr
  | .neg s, r, ho, hp, hg, hl, hc, n, r', hr => by
    simp only [Stm.parts] at hl hp
    have g1 : AllG (.str NOT :: r) := hg.cons (gd_str (by decide)) (by omega)
    refine .cons (r1 := .str NOT :: r) (.stop g1 (by rw [end_word (by decide) (by decide)]; rfl)) ?_
    refine feed_stm s (.str NOT :: r) ho (by omega) g1 (by simp; omega) (fun x hx => by cases hx; exact ⟨by decide, by decide⟩) (n + 1) r' ?_
    refine .step (g1.cons (gd_stm (by omega)) (by simp; omega)) (endR_of2 (e := (Stm.neg s).w) ?_ ?_ rfl) (gd_str (by decide)) (by simp [wm, inS, isS]) ?_
    · simp only [plainR, let_stm, Bool.and_false]
      split
      · rename_i z; cases z
      · split <;> rfl
    · simp only [frontR, said_stm, Stm.w]; rfl
    · exact hr
  | .bnd k a s, r, ho, hp, hg, hl, hc, n, r', hr => by
    simp only [Stm.parts] at hl hp
    have hk := ho.1; simp at hk
    have hk5 : k.length ≤ 10 := by rcases hk with rfl | rfl <;> decide
    have g1 : AllG (.str k :: r) := hg.cons (gd_str hk5) (by omega)
    have g2 : AllG (.str [a] :: .str k :: r) := g1.cons (gd_str (by simp)) (by simp; omega)
    refine .cons (r1 := .str k :: r) (.stop g1 (by rw [end_word (by rcases hk with rfl | rfl <;> decide) (by rcases hk with rfl | rfl <;> decide)]; rfl)) ?_
    refine .cons (r1 := .str [a] :: .str k :: r) (.stop g2 (by rw [end_letter ho.2.1 (fun x hx => by cases hx; rcases hk with rfl | rfl <;> exact ⟨by decide, by decide⟩)]; rfl)) ?_
    have ha1 : isS ONE (.str [a]) = false := beq_eq_false_iff_ne.mpr (by simp)
    have ha2 : inS TWO (.str [a]) = false := by simp [inS, isS]
    have ha3 : isS NOT (.str [a]) = false := beq_eq_false_iff_ne.mpr (by simp)
    refine feed_stm s (.str [a] :: .str k :: r) ho.2.2 (by omega) g2 (by simp; omega) (fun x hx => by cases hx; exact ⟨ha1, ha2⟩) (n + 1) r' ?_
    refine .step (g2.cons (gd_stm (by omega)) (by simp; omega)) (endR_of2 (e := (Stm.bnd k a s).w) ?_ ?_ rfl) (gd_str hk5) ?_ ?_
    · simp only [plainR, let_stm, Bool.and_false]; rfl
    · have h2 : inS BND (.str k) = true := by rcases hk with rfl | rfl <;> decide
      simp only [frontR, said_stm, ha3, h2, let_of ho.2.1, Stm.w]; rfl
    · rcases hk with rfl | rfl <;> simp [wm, inS, isS]
    · have : wm (Stm.bnd k a s).w = 3 := by rcases hk with rfl | rfl <;> rfl
      rw [show (W.tup [W.str k, W.str [a], s.w]) = (Stm.bnd k a s).w from rfl, this]
      exact hr
  | .jn k s t, r, ho, hp, hg, hl, hc, n, r', hr => by
    simp only [Stm.parts] at hl hp
    have hk := ho.1; simp at hk
    have hk5 : k.length ≤ 10 := by rcases hk with rfl | rfl <;> decide
    have ps := parts_pos s
    have pt := parts_pos t
    have g1 : AllG (.str [40] :: r) := hg.cons (gd_str (by decide)) (by omega)
    have g2 : AllG (s.w :: .str [40] :: r) := g1.cons (gd_stm (by omega)) (by simp; omega)
    have g3 : AllG (.str k :: s.w :: .str [40] :: r) := g2.cons (gd_str hk5) (by simp; omega)
    have g4 : AllG (t.w :: .str k :: s.w :: .str [40] :: r) := g3.cons (gd_stm (by omega)) (by simp; omega)
    have g5 : AllG (.str [41] :: t.w :: .str k :: s.w :: .str [40] :: r) := g4.cons (gd_str (by decide)) (by simp; omega)
    have nk : isS NOT (.str k) = false := by rcases hk with rfl | rfl <;> decide
    have jk : inS JN (.str k) = true := by rcases hk with rfl | rfl <;> decide
    refine .cons (r1 := .str [40] :: r) (.stop g1 (by rw [end_word (by decide) (by decide)]; rfl)) ?_
    refine Feed.app (r1 := s.w :: .str [40] :: r) (feed_stm s _ ho.2.1 (by omega) g1 (by simp; omega) (fun x hx => by cases hx; exact ⟨by decide, by decide⟩) 0 _ (.stop g2 ?_)) ?_
    · rw [endR_of3 (e := .non) ?_ ?_ ?_]; rfl
      · simp only [plainR, let_stm, Bool.and_false]
        split
        · rename_i z; cases z
        · split <;> rfl
      · cases r with
        | nil => simp only [frontR, said_stm]; rfl
        | cons y r => simp only [frontR, said_stm, show letW (W.str [40]) = false from by decide, Bool.and_false]; rfl
      · unfold brackR
        split
        · rename_i e; cases e; rw [isS_stm]; rfl
        · rfl
    refine .cons (r1 := .str k :: s.w :: .str [40] :: r) (.stop g3 (by rw [end_word (by rcases hk with rfl | rfl <;> decide) (by rcases hk with rfl | rfl <;> decide)]; rfl)) ?_
    refine Feed.app (r1 := t.w :: .str k :: s.w :: .str [40] :: r) (feed_stm t _ ho.2.2 (by omega) g3 (by simp; omega) (fun x hx => by cases hx; rcases hk with rfl | rfl <;> exact ⟨by decide, by decide⟩) 0 _ (.stop g4 ?_)) ?_
    · rw [endR_of3 (e := .non) ?_ ?_ ?_]; rfl
      · simp only [plainR, let_stm, Bool.and_false]; rfl
      · simp only [frontR, said_stm, nk, inS_stm, Bool.false_and]; rfl
      · unfold brackR
        split
        · rename_i e; cases e; rw [isS_stm]; rfl
        · rfl
    refine .cons (n := n + 1) (.step (n := n) g5 (endR_of3 (e := (Stm.jn k s t).w) ?_ ?_ ?_) (gd_str hk5) ?_ ?_) .nil
    · simp only [plainR, show letW (W.str [41]) = false from by decide, Bool.and_false]; rfl
    · rfl
    · simp only [brackR, jk, said_stm, Stm.w]; rfl
    · rcases hk with rfl | rfl <;> simp [wm, inS, isS]
    · have : wm (Stm.jn k s t).w = 5 := by rcases hk with rfl | rfl <;> rfl
      rw [show (W.tup [W.str k, s.w, t.w]) = (Stm.jn k s t).w from rfl, this]
      exact hr
end P
set_option Elab.async false
set_option linter.all false
set_option maxRecDepth 100000
set_option maxHeartbeats 4000000
namespace P
open PySem L2
theorem wm_ok {x : W} {ws : List W} (hx : Gd x) (st : List Cell) : f_words_many [.tup (x :: ws)] st = .ok (.int (wm (.tup (x :: ws)) : Nat)) st := by
  have h0 : wIx (.tup (x :: ws)) (.int 0) st = .ok x st := o_ixT (at_nat (q := 0) rfl)
  have h1 := in_JN' hx st
  apply run_self'
  apply sat_ret
  rotate_left 1
  · exact ⟨_, _, rfl, rfl, rfl⟩
  cases e : inS JN x with
  | true =>
    rw [e] at h1
    have : (wm (.tup (x :: ws)) : Nat) = (x :: ws).length + 2 := by simp [wm, e]
    rw [this]
    apply k_if1
    · (walk_at "evs")
    · (walk_at "evs")
      rfl
  | false =>
    rw [e] at h1
    have : (wm (.tup (x :: ws)) : Nat) = (x :: ws).length := by simp [wm, e]
    rw [this]
    apply k_if2
    · (walk_at "evs")
    · (walk_at "evs")
theorem Red.all {n : Nat} {r r' : List W} (h : Red n r r') : AllG r := by cases h <;> assumption
theorem cut_rev {r : List W} {q : Nat} (h : q ≤ r.length) : cutW r.reverse none (some ((r.length : Int) - (q : Int))) = (r.drop q).reverse := by
  rw [show (r.length : Int) - (q : Int) = ((r.length - q : Nat) : Int) by omega, cut_pre (by simp), ← List.reverse_drop]
theorem words_ok {st : List Cell} {nw : Nat} {wd : List (List Nat)} {s : Stm} (h : st[nw]? = some (.lst (wd.map W.str))) (hf : Feed wd [] [s.w]) (hp : s.parts ≤ 100) : f_read_words [.loc nw] st = .ok s.w st := by
  refine run_is (N := 4) (ws := [.loc nw]) (body := g_read_words) ?_ (by simp [undWs, Stm.und])
  apply sat_seq
  · (walk_at "evs")
  refine sat_for (fun i ρ st' => ∃ (r : List W) (j : Nat) (g : List Cell) (o2 o3 : Option W), ρ = [some (.loc nw), some (.loc (st.length + j)), o2, o3] ∧ st' = st ++ g ∧ g[j]? = some (.lst r.reverse) ∧ Feed (wd.drop i) r [s.w])
    (k := (wd.map W.str, some (nw, wd.map W.str))) (i_any_l (by (walk_at "evs")) (lstOf_l (cell_old h))) ⟨[], 0, [.lst []], none, none, rfl, rfl, rfl, hf⟩ ?_ ?_ ?_
  · rintro i ρ st' ⟨r, j, g, o2, o3, rfl, rfl, _⟩
    exact lstOf_l (cell_old h)
  · rintro i w ρ st' hw ⟨r, j, g, o2, o3, rfl, rfl, hg, hF⟩
    obtain ⟨w0, hw0, rfl⟩ : ∃ w0, wd[i]? = some w0 ∧ w = .str w0 := by
      simp only [List.getElem?_map, Option.map_eq_some_iff] at hw
      obtain ⟨d, h1, rfl⟩ := hw
      exact ⟨d, h1, rfl⟩
    have hi : i < wd.length := (List.getElem?_eq_some_iff.mp hw0).1
    have hdr : wd.drop i = w0 :: wd.drop (i + 1) := by
      rw [List.drop_eq_getElem_cons hi]
      congr 1
      exact (List.getElem?_eq_some_iff.mp hw0).2
    rw [hdr] at hF
    cases hF with
    | @cons n _ _ _ r1 _ hR hF =>
    refine ⟨_, rfl, ?_⟩
    have hG := hR.all
    have hc : (st ++ g)[st.length + j]? = some (.lst r.reverse) := by rw [cell_at]; exact hg
    have hjl : j < g.length := (List.getElem?_eq_some_iff.mp hg).1
    have hl : r.reverse.length < LIM := by have := hG.2; simp at this ⊢; show _ < 1000000; omega
    apply sat_seq
    · (repeat' (first | with_reducible exact k_isLst hc | with_reducible exact o_app hc hl | walk_at "ev1"))
    rw [cell_set]
    have hg' : (g.set j (.lst (r.reverse ++ [.str w0])))[j]? = some (.lst (.str w0 :: r).reverse) := by simp [hjl]
    generalize g.set j (.lst (r.reverse ++ [.str w0])) = g' at hg'
    have hc' : (st ++ g')[st.length + j]? = some (.lst (.str w0 :: r).reverse) := by rw [cell_at]; exact hg'
    have he := end_ok hc' hG.1 (by simp)
    apply sat_seq
    · (walk_at "evs")
    refine sat_while' (fun n ρ st' => ∃ (r : List W) (j : Nat) (g : List Cell), ρ = [some (.loc nw), some (.loc (st.length + j)), some (.str w0), some (endR r)] ∧ st' = st ++ g ∧ g[j]? = some (.lst r.reverse) ∧ Red n r r1) n ⟨_, j, g', rfl, rfl, hg', hR⟩ ?_ ?_
    · rintro n ρ st' ⟨r, j, g, rfl, rfl, hg, hR⟩
      cases hR with
      | stop hA hn =>
        left
        have hb : (!(endR r1).isNon) = false := by rw [hn]; rfl
        (walk_at "evs")
      | @step n _ _ x ws hA hE hx hle hR =>
        right
        have hA2 := hR.all
        have hc : (st ++ g)[st.length + j]? = some (.lst r.reverse) := by rw [cell_at]; exact hg
        have hlen := len_r hc
        have hwm := wm_ok (ws := ws) hx (st ++ g)
        constructor
        · rw [hE]
          (walk_at "evs")
        · rw [hE]
          have hsl := o_slL (l := none) (h := some ((r.length : Int) - ((wm (.tup (x :: ws)) : Nat) : Int))) (lstOf_l hc)
          rw [cut_rev hle] at hsl
          have c1 : ((st ++ g) ++ [Cell.lst (r.drop (wm (.tup (x :: ws)))).reverse] ++ [Cell.lst [.tup (x :: ws)]])[(st ++ g).length]? = some (.lst (r.drop (wm (.tup (x :: ws)))).reverse) := cell_old (by rw [cell_at0]; rfl)
          have c2 : ((st ++ g) ++ [Cell.lst (r.drop (wm (.tup (x :: ws)))).reverse] ++ [Cell.lst [.tup (x :: ws)]])[((st ++ g) ++ [Cell.lst (r.drop (wm (.tup (x :: ws)))).reverse]).length]? = some (.lst [.tup (x :: ws)]) := by rw [cell_at0]; rfl
          have hsz : ((r.drop (wm (.tup (x :: ws)))).reverse ++ [W.tup (x :: ws)]).length ≤ LIM := by
            have := hA2.2
            simp at this ⊢; show _ ≤ 1000000; omega
          have hadd := o_addL c1 c2 hsz
          apply sat_seq
          · (walk_at "evs")
          have hst : st ++ g ++ [Cell.lst (r.drop (wm (.tup (x :: ws)))).reverse] ++ [Cell.lst [.tup (x :: ws)]] ++ [Cell.lst ((r.drop (wm (.tup (x :: ws)))).reverse ++ [W.tup (x :: ws)])] = st ++ (g ++ [Cell.lst (r.drop (wm (.tup (x :: ws)))).reverse, Cell.lst [.tup (x :: ws)], Cell.lst ((r.drop (wm (.tup (x :: ws)))).reverse ++ [W.tup (x :: ws)])]) := by simp
          have hln : (st ++ g ++ [Cell.lst (r.drop (wm (.tup (x :: ws)))).reverse] ++ [Cell.lst [.tup (x :: ws)]]).length = st.length + (g.length + 2) := by simp <;> omega
          rw [hst, hln]
          have hg2 : (g ++ [Cell.lst (r.drop (wm (.tup (x :: ws)))).reverse, Cell.lst [.tup (x :: ws)], Cell.lst ((r.drop (wm (.tup (x :: ws)))).reverse ++ [W.tup (x :: ws)])])[g.length + 2]? = some (.lst (W.tup (x :: ws) :: r.drop (wm (.tup (x :: ws)))).reverse) := by rw [cell_at]; simp
          generalize (g ++ [Cell.lst (r.drop (wm (.tup (x :: ws)))).reverse, Cell.lst [.tup (x :: ws)], Cell.lst ((r.drop (wm (.tup (x :: ws)))).reverse ++ [W.tup (x :: ws)])]) = g2 at hg2
          have hc2 : (st ++ g2)[st.length + (g.length + 2)]? = some (.lst (W.tup (x :: ws) :: r.drop (wm (.tup (x :: ws)))).reverse) := by rw [cell_at]; exact hg2
          have he2 := end_ok hc2 hA2.1 (by simp)
          apply sat_eq
          · (walk_at "evs")
          · exact ⟨_, _, rfl, n, by omega, _, _, _, rfl, rfl, hg2, hR⟩
    · rintro m ρ st' ⟨r, j, g, rfl, rfl, hg, hR⟩ ht
      cases hR with
      | stop hA hn => exact ⟨_, _, rfl, _, _, _, _, _, rfl, rfl, hg, hF⟩
      | @step n _ _ x ws hA hE hx hle hR =>
        exfalso
        have : asB (eNotN (eVar 3)) [some (.loc nw), some (.loc (st.length + j)), some (.str w0), some (endR r)] (st ++ g) = .ok true (st ++ g) := by
          rw [hE]
          (walk_at "evs")
        rw [this] at ht
        cases ht
  · rintro ρ st' ⟨r, j, g, o2, o3, rfl, rfl, hg, hF⟩
    have hd : wd.drop (wd.map W.str).length = [] := by simp
    rw [show ((wd.map W.str, some (nw, wd.map W.str)) : Walk).1 = wd.map W.str from rfl, hd] at hF
    cases hF
    have hc : (st ++ g)[st.length + j]? = some (.lst [s.w].reverse) := by rw [cell_at]; exact hg
    have hlen := len_r hc
    have h0 : wIx (.loc (st.length + j)) (.int 0) (st ++ g) = .ok s.w (st ++ g) := o_ixL (lstOf_l hc) rfl
    have hs := said_ok (gd_stm hp) (st ++ g)
    rw [said_stm] at hs
    apply sat_seq_f
    · apply k_bor_f
      · (walk_at "evs")
      · (walk_at "evs")
    apply sat_next
    apply sat_ret
    · (walk_at "evs")
    · exact ⟨_, _, rfl, rfl, _, rfl⟩
end P
set_option Elab.async false
set_option linter.all false
set_option maxRecDepth 100000
set_option maxHeartbeats 4000000
namespace P
open PySem L2
/-! ### items: words and folded statements -/
inductive It where
  | wd (l : List Nat) | st (s : Stm)
namespace It
def w : It → W
  | wd l => .str l
  | st s => s.w
def words : It → List (List Nat)
  | wd l => [l]
  | st s => s.words
def ok : It → Prop
  | wd l => l.length ≤ 10000
  | st s => s.ok
theorem gd {x : It} (h : x.ok) : Gd x.w := by
  cases x with
  | wd l => exact Nat.le_trans h (by decide)
  | st s => cases s <;> trivial
end It
theorem isS_it {l : List Nat} {x : It} (h : isS l x.w = true) : x = .wd l := by
  cases x with
  | wd m => exact congrArg It.wd (beq_iff_eq.mp h)
  | st s => rw [show (It.st s).w = s.w from rfl, isS_stm] at h; cases h
theorem inS_it {ls : List (List Nat)} {x : It} (h : inS ls x.w = true) : ∃ l ∈ ls, x = .wd l := by
  unfold inS at h
  obtain ⟨l, hl, e⟩ := List.any_eq_true.mp h
  exact ⟨l, hl, isS_it e⟩
theorem let_it {x : It} (h : letW x.w = true) : ∃ c ∈ LL, x = .wd [c] := by
  cases x with
  | wd m =>
    match m, h with
    | [c], h => exact ⟨c, of_decide_eq_true h, rfl⟩
  | st s => rw [show (It.st s).w = s.w from rfl, let_stm] at h; cases h
theorem said_it {x : It} (h : saidW x.w = true) : ∃ s, x = .st s := by
  cases x with
  | wd m => cases h
  | st s => exact ⟨s, rfl⟩
def itWords (r : List It) : List (List Nat) := r.reverse.flatMap It.words
theorem itWords_cons (x : It) (r : List It) : itWords (x :: r) = itWords r ++ x.words := by simp [itWords]
def En (r : List It) (e : W) : Prop := ∃ (s : Stm) (x : W) (ws : List W), s.ok ∧ s.w = .tup (x :: ws) ∧ Gd x ∧ e = s.w ∧ ∃ a b : List It, r = a ++ b ∧ a.length = wm s.w ∧ 2 ≤ a.length ∧ itWords a = s.words
theorem plain_it (r : List It) : plainR (r.map It.w) = .non ∨ En r (plainR (r.map It.w)) := by
  match r with
  | [] => left; rfl
  | [x] => left; rfl
  | x1 :: x2 :: r =>
    simp only [List.map, plainR]
    split
    · rename_i h
      rw [Bool.and_eq_true] at h
      cases isS_it h.1
      obtain ⟨c, hc, rfl⟩ := let_it h.2
      right
      exact ⟨.one c, .str ONE, [.str [c]], hc, rfl, gd_str (by decide), rfl, [.wd [c], .wd ONE], r, rfl, rfl, by simp, rfl⟩
    · cases r with
      | nil => left; rfl
      | cons x3 r =>
        simp only [List.map]
        split
        · rename_i h
          rw [Bool.and_eq_true, Bool.and_eq_true] at h
          obtain ⟨k, hk, rfl⟩ := inS_it h.1
          obtain ⟨a, ha, rfl⟩ := let_it h.2.1
          obtain ⟨b, hb, rfl⟩ := let_it h.2.2
          right
          have hk' := hk; simp at hk'
          refine ⟨.two k a b, .str k, [.str [a], .str [b]], ⟨hk, ha, hb⟩, rfl, gd_str (by rcases hk' with rfl | rfl | rfl | rfl <;> decide), rfl, [.wd [b], .wd k, .wd [a]], r, rfl, ?_, by simp, rfl⟩
          rcases hk' with rfl | rfl | rfl | rfl <;> rfl
        · left; rfl
theorem front_it (r : List It) (ho : ∀ x ∈ r, x.ok) : frontR (r.map It.w) = .non ∨ En r (frontR (r.map It.w)) := by
  match r, ho with
  | [], _ => left; rfl
  | x1 :: r, ho =>
    simp only [List.map, frontR]
    split
    · left; rfl
    · rename_i h
      obtain ⟨s, rfl⟩ := said_it (x := x1) (by simpa using h)
      have hs : s.ok := ho (.st s) (by simp)
      cases r with
      | nil => left; rfl
      | cons x2 r =>
        simp only [List.map]
        split
        · rename_i h2
          cases isS_it h2
          right
          exact ⟨.neg s, .str NOT, [s.w], hs, rfl, gd_str (by decide), rfl, [.st s, .wd NOT], r, rfl, rfl, by simp, by simp [itWords, It.words, Stm.words]⟩
        · cases r with
          | nil => left; rfl
          | cons x3 r =>
            simp only [List.map]
            split
            · rename_i h3
              rw [Bool.and_eq_true] at h3
              obtain ⟨k, hk, rfl⟩ := inS_it h3.1
              obtain ⟨a, ha, rfl⟩ := let_it h3.2
              right
              have hk' := hk; simp at hk'
              refine ⟨.bnd k a s, .str k, [.str [a], s.w], ⟨hk, ha, hs⟩, rfl, gd_str (by rcases hk' with rfl | rfl <;> decide), rfl, [.st s, .wd [a], .wd k], r, rfl, ?_, by simp, by simp [itWords, It.words, Stm.words]⟩
              rcases hk' with rfl | rfl <;> rfl
            · left; rfl
theorem brack_it (r : List It) (ho : ∀ x ∈ r, x.ok) : brackR (r.map It.w) = .non ∨ En r (brackR (r.map It.w)) := by
  match r, ho with
  | [], _ => left; rfl
  | [_], _ => left; rfl
  | [_, _], _ => left; rfl
  | [_, _, _], _ => left; rfl
  | [_, _, _, _], _ => left; rfl
  | x1 :: x2 :: x3 :: x4 :: x5 :: r, ho =>
    simp only [List.map, brackR]
    split
    · left; rfl
    · rename_i h
      split
      · left; rfl
      · rename_i h2
        simp only [Bool.or_eq_true, Bool.not_eq_true', not_or, Bool.not_eq_false] at h h2
        cases isS_it h.1
        cases isS_it h.2.1
        obtain ⟨k, hk, rfl⟩ := inS_it h.2.2
        obtain ⟨s, rfl⟩ := said_it h2.1
        obtain ⟨t, rfl⟩ := said_it h2.2
        right
        have hk' := hk; simp at hk'
        refine ⟨.jn k s t, .str k, [s.w, t.w], ⟨hk, ho (.st s) (by simp), ho (.st t) (by simp)⟩, rfl, gd_str (by rcases hk' with rfl | rfl <;> decide), rfl, [.wd [41], .st t, .wd k, .st s, .wd [40]], r, rfl, ?_, by simp, by simp [itWords, It.words, Stm.words]⟩
        rcases hk' with rfl | rfl <;> rfl
theorem En.non {r : List It} {e : W} (h : En r e) : e.isNon = false := by
  obtain ⟨s, x, ws, _, hw, _, rfl, _⟩ := h
  rw [hw]; rfl
theorem end_it (r : List It) (ho : ∀ x ∈ r, x.ok) : endR (r.map It.w) = .non ∨ En r (endR (r.map It.w)) := by
  unfold endR
  rcases plain_it r with e | e
  · rw [e]
    rcases front_it r ho with e2 | e2
    · rw [e2]
      exact brack_it r ho
    · rw [e2.non]; exact .inr e2
  · rw [e.non]; exact .inr e
theorem fold_any : ∀ (n : Nat) (r : List It), r.length ≤ n → n ≤ 5000 → (∀ x ∈ r, x.ok) → ∃ m r', Red m (r.map It.w) (r'.map It.w) ∧ (∀ x ∈ r', x.ok) ∧ r'.length ≤ r.length ∧ itWords r' = itWords r := by
  intro n
  induction n with
  | zero =>
    intro r hn _ ho
    have : r = [] := by cases r with | nil => rfl | cons _ _ => simp at hn
    subst this
    exact ⟨0, [], .stop ⟨by simp, by simp⟩ rfl, ho, Nat.le_refl _, rfl⟩
  | succ n ih =>
    intro r hn h5 ho
    have hA : AllG (r.map It.w) := ⟨fun x hx => by obtain ⟨y, hy, rfl⟩ := List.mem_map.mp hx; exact It.gd (ho y hy), by simp; omega⟩
    rcases end_it r ho with e | ⟨s, x, ws, hs, hw, hx, he, a, b, rfl, hl, h2, hb⟩
    · exact ⟨0, r, .stop hA (by rw [e]; rfl), ho, Nat.le_refl _, rfl⟩
    · have ho' : ∀ x ∈ It.st s :: b, x.ok := fun y hy => by
        rcases List.mem_cons.mp hy with rfl | hy
        · exact hs
        · exact ho y (List.mem_append_right _ hy)
      simp only [List.length_append] at hn
      obtain ⟨m, r', hR, h1, h3, h4⟩ := ih (.st s :: b) (by simp; omega) (by omega) ho'
      refine ⟨m + 1, r', ?_, h1, by simp at h3 ⊢; omega, ?_⟩
      · rw [hw] at he hl
        refine .step hA he hx ?_ ?_
        · rw [← hl]; simp
        · rw [← hl, ← hw]
          have : ((a ++ b).map It.w).drop a.length = b.map It.w := by rw [← List.map_drop, List.drop_left]
          rw [this]
          exact hR
      · rw [h4, itWords_cons]
        simp only [itWords, List.reverse_append, List.flatMap_append, It.words] at hb ⊢
        rw [hb]
theorem feed_any : ∀ (wd : List (List Nat)) (r : List It), (∀ w ∈ wd, w.length ≤ 10000) → r.length + wd.length ≤ 5000 → (∀ x ∈ r, x.ok) → ∃ r', Feed wd (r.map It.w) (r'.map It.w) ∧ (∀ x ∈ r', x.ok) ∧ itWords r' = itWords r ++ wd := by
  intro wd
  induction wd with
  | nil => intro r _ _ ho; exact ⟨r, .nil, ho, by simp⟩
  | cons w ws ih =>
    intro r hw hl ho
    obtain ⟨m, r1, hR, h1, h2, h3⟩ := fold_any (r.length + 1) (.wd w :: r) (by simp) (by simp at hl; omega) fun y hy => by
      rcases List.mem_cons.mp hy with rfl | hy
      · exact hw w (by simp)
      · exact ho y hy
    obtain ⟨r', hF, h4, h5⟩ := ih r1 (fun w hw' => hw w (by simp [hw'])) (by simp at h2 hl; omega) h1
    refine ⟨r', .cons hR hF, h4, ?_⟩
    rw [h5, h3, itWords_cons]
    simp [It.words]
end P
set_option Elab.async false
set_option linter.all false
set_option maxRecDepth 100000
set_option maxHeartbeats 4000000
namespace P
open PySem L2
def ltr : List Nat → Option Nat
  | [c] => if c ∈ LL then some c else none
  | _ => none
def pa : Nat → List (List Nat) → Option (Stm × List (List Nat))
  | 0, _ => none
  | _ + 1, [] => none
  | n + 1, w :: r =>
    if w = [40] then
      match pa n r with
      | some (s, k :: r2) => if k ∈ JN then
          (match pa n r2 with
          | some (t, z :: r3) => if z = [41] then some (.jn k s t, r3) else none
          | _ => none) else none
      | _ => none
    else if w = NOT then (pa n r).map fun p => (.neg p.1, p.2)
    else if w ∈ BND then
      match r with
      | x :: r2 => (match ltr x with
        | some a => (pa n r2).map fun p => (.bnd w a p.1, p.2)
        | none => none)
      | [] => none
    else if w = ONE then
      match r with
      | x :: r2 => (ltr x).map fun a => (.one a, r2)
      | [] => none
    else
      match r with
      | k :: y :: r3 => (match ltr w, ltr y with
        | some a, some b => if k ∈ TWO then some (.two k a b, r3) else none
        | _, _ => none)
      | _ => none
theorem ltr_some {x : List Nat} {a : Nat} (h : ltr x = some a) : a ∈ LL ∧ x = [a] := by
  unfold ltr at h
  split at h
  · split at h
    · rename_i hc; injection h with h; subst h; exact ⟨hc, rfl⟩
    · cases h
  · cases h
theorem ltr_of {a : Nat} (h : a ∈ LL) : ltr [a] = some a := if_pos h
theorem pa_sound : ∀ (n : Nat) (l : List (List Nat)) (s : Stm) (p : List (List Nat)), pa n l = some (s, p) → s.ok ∧ l = s.words ++ p
  | 0, _, _, _, h => by cases h
  | _ + 1, [], _, _, h => by cases h
  | n + 1, w :: r, s, p, h => by
    unfold pa at h
    split at h
    · rename_i hw
      subst hw
      split at h
      · rename_i s1 k r2 e1
        have h1 := pa_sound n _ _ _ e1
        split at h
        · rename_i hk
          split at h
          · rename_i t z r3 e2
            have h2 := pa_sound n _ _ _ e2
            split at h
            · rename_i hz
              subst hz
              cases h
              exact ⟨⟨hk, h1.1, h2.1⟩, by simp [Stm.words, h1.2, h2.2]⟩
            · cases h
          · cases h
        · cases h
      · cases h
    · split at h
      · rename_i hw
        subst hw
        cases e : pa n r with
        | none => rw [e] at h; cases h
        | some q =>
          rw [e] at h
          have h1 := pa_sound n _ _ _ e
          cases h
          exact ⟨h1.1, by simp [Stm.words, h1.2]⟩
      · split at h
        · rename_i hw
          split at h
          · rename_i x r2
            split at h
            · rename_i a ea
              obtain ⟨ha, rfl⟩ := ltr_some ea
              cases e : pa n r2 with
              | none => rw [e] at h; cases h
              | some q =>
                rw [e] at h
                have h1 := pa_sound n _ _ _ e
                cases h
                exact ⟨⟨hw, ha, h1.1⟩, by simp [Stm.words, h1.2]⟩
            · cases h
          · cases h
        · split at h
          · rename_i hw
            subst hw
            split at h
            · rename_i x r2
              cases e : ltr x with
              | none => rw [e] at h; cases h
              | some a =>
                rw [e] at h
                obtain ⟨ha, rfl⟩ := ltr_some e
                cases h
                exact ⟨ha, by simp [Stm.words]⟩
            · cases h
          · split at h
            · rename_i k y r3
              split at h
              · rename_i a b ea eb
                obtain ⟨ha, rfl⟩ := ltr_some ea
                obtain ⟨hb, rfl⟩ := ltr_some eb
                split at h
                · rename_i hk
                  cases h
                  exact ⟨⟨hk, ha, hb⟩, by simp [Stm.words]⟩
                · cases h
              · cases h
            · cases h
theorem LL_ne {a : Nat} (h : a ∈ LL) : a ≠ 40 := fun z => by subst z; exact absurd h (by decide)
theorem pa_full : ∀ (s : Stm) (p : List (List Nat)) (n : Nat), s.ok → s.parts ≤ n → pa n (s.words ++ p) = some (s, p)
  | .one a, p, n + 1, ho, hn => by
    simp only [Stm.words, List.cons_append, List.nil_append]
    unfold pa
    rw [if_neg (by decide), if_neg (by decide), if_neg (by decide), if_pos rfl]
    simp [ltr_of ho]
  | .two k a b, p, n + 1, ho, hn => by
    simp only [Stm.words, List.cons_append, List.nil_append]
    have := LL_ne ho.2.1
    unfold pa
    rw [if_neg (by simpa using this), if_neg (by simp), if_neg (by simp), if_neg (by simp)]
    simp only [ltr_of ho.2.1, ltr_of ho.2.2]
    rw [if_pos ho.1]
  | .neg s, p, n + 1, ho, hn => by
    simp only [Stm.words, List.cons_append, Stm.parts] at hn ⊢
    unfold pa
    rw [if_neg (by decide), if_pos rfl, pa_full s p n ho (by omega)]
    rfl
  | .bnd k a s, p, n + 1, ho, hn => by
    have hk := ho.1; simp at hk
    simp only [Stm.words, List.cons_append, Stm.parts] at hn ⊢
    unfold pa
    rw [if_neg (by rcases hk with rfl | rfl <;> decide), if_neg (by rcases hk with rfl | rfl <;> decide), if_pos ho.1]
    simp only [ltr_of ho.2.1, pa_full s p n ho.2.2 (by omega)]
    rfl
  | .jn k s t, p, n + 1, ho, hn => by
    simp only [Stm.words, List.cons_append, Stm.parts, List.append_assoc, List.nil_append] at hn ⊢
    unfold pa
    rw [if_pos rfl, pa_full s _ n ho.2.1 (by omega)]
    simp only
    rw [if_pos ho.1, pa_full t _ n ho.2.2 (by omega)]
    simp
  | .one a, p, 0, ho, hn => by simp [Stm.parts] at hn
  | .two k a b, p, 0, ho, hn => by simp [Stm.parts] at hn
  | .neg s, p, 0, ho, hn => by simp [Stm.parts] at hn
  | .bnd k a s, p, 0, ho, hn => by simp [Stm.parts] at hn
  | .jn k s t, p, 0, ho, hn => by simp [Stm.parts] at hn
theorem parts_words : ∀ s : Stm, s.parts ≤ s.words.length
  | .one _ => by simp [Stm.parts, Stm.words]
  | .two _ _ _ => by simp [Stm.parts, Stm.words]
  | .neg s => by have := parts_words s; simp [Stm.parts, Stm.words]; omega
  | .bnd _ _ s => by have := parts_words s; simp [Stm.parts, Stm.words]; omega
  | .jn _ s t => by have := parts_words s; have := parts_words t; simp [Stm.parts, Stm.words]; omega
/-! ### the law's own reading -/
def rem (l : List (List Nat)) : Nat := (l.map fun w => w.length + 1).sum
section
variable {st : List Cell} {nw : Nat} {wd : List (List Nat)}
theorem wd_ix (h : st[nw]? = some (.lst (wd.map W.str))) {q : Nat} {x : List Nat} (hx : wd[q]? = some x) : wIx (.loc nw) (.int q) st = .ok (.str x) st := o_ixL (lstOf_l h) (at_nat (by simp [hx]))
theorem in_LL (c : Nat) (st : List Cell) : wIn false (.str [c]) (.str LL) st = .ok (.bl (decide (c ∈ LL))) st := by
  show R.ok (W.bl (if false = true then _ else _)) st = _; rfl
theorem letter_at_ok (h : st[nw]? = some (.lst (wd.map W.str))) (hw : ∀ w ∈ wd, w.length ≤ 10000) (q : Nat) : f__law_letter_at [.loc nw, .int q] st = .ok (.bl ((wd[q]?.bind ltr).isSome)) st := by
  have hlen := o_lenL (lstOf_l h)
  rw [List.length_map] at hlen
  by_cases hq : q < wd.length
  · have hx : wd[q]? = some wd[q] := by simp [hq]
    rw [hx]
    have hL := hw wd[q] (List.getElem_mem _)
    generalize wd[q] = x at hx hL
    have hix := wd_ix h hx
    have hL' : x.length ≤ LIM := Nat.le_trans hL (by decide)
    have d0 : decide ((wd.length : Int) ≤ (q : Int)) = false := decide_eq_false (by omega)
    by_cases h1 : x.length = 1
    · obtain ⟨c, rfl⟩ := List.length_eq_one_iff.mp h1
      apply run_self'
      apply sat_seq_f
      · apply k_bor_f
        · (walk_at "evs")
        · (repeat' (first | with_reducible exact o_lenS hL' | walk_at "ev1"))
      apply sat_next
      apply sat_ret
      · (repeat' (first | with_reducible exact in_LL c st | walk_at "ev1"))
      · refine ⟨_, _, rfl, ?_, rfl⟩
        simp only [Option.bind_some, ltr]
        by_cases hc : c ∈ LL
        · rw [if_pos hc, decide_eq_true hc]; rfl
        · rw [if_neg hc, decide_eq_false hc]; rfl
    · have n1 : (!((x.length : Int) == 1)) = true := by rw [Bool.not_eq_true', beq_eq_false_iff_ne]; omega
      apply run_self'
      apply sat_seq_t
      · apply k_bor_f
        · (walk_at "evs")
        · (repeat' (first | with_reducible exact o_lenS hL' | walk_at "ev1"))
      apply sat_seq_ret
      · (walk_at "evs")
      · refine ⟨_, _, rfl, ?_, rfl⟩
        match x, h1 with
        | [], _ => rfl
        | [_], z => exact absurd rfl z
        | _ :: _ :: _, _ => rfl
  · have hx : wd[q]? = none := by simp; omega
    rw [hx]
    have d0 : decide ((wd.length : Int) ≤ (q : Int)) = true := decide_eq_true (by omega)
    apply run_self'
    apply sat_seq_t
    · apply k_bor_t
      (walk_at "evs")
    apply sat_seq_ret
    · (walk_at "evs")
    · exact ⟨_, _, rfl, rfl, rfl⟩
end
end P
set_option Elab.async false
set_option linter.all false
set_option maxRecDepth 100000
set_option maxHeartbeats 4000000
namespace P
open PySem L2
theorem inS_mem (ls : List (List Nat)) (x : List Nat) : inS ls (.str x) = decide (x ∈ ls) := by
  rw [Bool.eq_iff_iff, decide_eq_true_iff]
  unfold inS
  rw [List.any_eq_true]
  constructor
  · rintro ⟨l, hl, e⟩
    rw [beq_iff_eq.mp e]; exact hl
  · intro hx
    exact ⟨x, hx, beq_iff_eq.mpr rfl⟩
def enc (wd : List (List Nat)) : Option (Stm × List (List Nat)) → W
  | none => .non
  | some (s, p) => .tup [s.w, .int ((wd.length - p.length : Nat) : Int)]
section
variable {st : List Cell} {nw : Nat} {wd : List (List Nat)}
theorem joint_ok (h : st[nw]? = some (.lst (wd.map W.str))) (hw : ∀ w ∈ wd, w.length ≤ 10000) {n k : Nat}
    (ih : ∀ (k : Nat) (pre rest : List (List Nat)), wd = pre ++ rest → rest.length < n → rem rest + 1 ≤ k → f__law_parsed k [.loc nw, .int pre.length] st = .ok (enc wd (pa n rest)) st)
    {pre r : List (List Nat)} (hwd : wd = pre ++ [40] :: r) (hn : r.length < n) (hk : rem r + 2 ≤ k) : f__law_joint k [.loc nw, .int pre.length] st = .ok (enc wd (pa (n + 1) ([40] :: r))) st := by
  obtain ⟨k, rfl⟩ : ∃ j, k = j + 1 := ⟨k - 1, by omega⟩
  have hlen := o_lenL (lstOf_l h)
  rw [List.length_map] at hlen
  have a1 := ih k (pre ++ [[40]]) r (by simp [hwd]) hn (by omega)
  rw [show (((pre ++ [[40]] : List (List Nat)).length : Nat) : Int) = (pre.length : Int) + 1 by simp] at a1
  refine run_self' (N := 4) (ws := [.loc nw, .int pre.length]) (body := g__law_joint (f__law_joint k) (f__law_parsed k)) ?_
  cases e1 : pa n r with
  | none =>
    rw [show pa (n + 1) ([40] :: r) = none by simp [pa, e1]]
    rw [e1] at a1
    change _ = R.ok W.non st at a1
    apply sat_seq
    · (walk_at "evs")
    apply sat_seq_t
    · apply k_bor_t
      (walk_at "evs")
    apply sat_seq_ret
    · (walk_at "evs")
    · exact ⟨_, _, rfl, rfl, rfl⟩
  | some v =>
    obtain ⟨s, p⟩ := v
    obtain ⟨hs, hr⟩ := pa_sound n r s p e1
    rw [e1] at a1
    cases p with
    | nil =>
      rw [show pa (n + 1) ([40] :: r) = none by simp [pa, e1]]
      change _ = R.ok (W.tup [s.w, .int wd.length]) st at a1
      have d1 : decide ((wd.length : Int) ≤ (wd.length : Int)) = true := decide_eq_true (by omega)
      apply sat_seq
      · (walk_at "evs")
      apply sat_seq_t
      · apply k_bor_f
        · (walk_at "evs")
        · apply k_bor_t
          (walk_at "evs")
      apply sat_seq_ret
      · (walk_at "evs")
      · exact ⟨_, _, rfl, rfl, rfl⟩
    | cons x r2 =>
      obtain ⟨pre2, hp2⟩ : ∃ pre2, pre2 = pre ++ [40] :: s.words := ⟨_, rfl⟩
      have hwd2 : wd = pre2 ++ x :: r2 := by rw [hp2, hwd, hr]; simp
      have hl2 : wd.length - (x :: r2).length = pre2.length := by rw [hwd2]; simp
      have hl3 : wd.length = pre2.length + (r2.length + 1) := by rw [hwd2]; simp
      change _ = R.ok (W.tup [s.w, .int ((wd.length - (x :: r2).length : Nat) : Int)]) st at a1
      rw [hl2] at a1
      have d1 : decide ((wd.length : Int) ≤ (pre2.length : Int)) = false := decide_eq_false (by omega)
      have x2 : wd[pre2.length]? = some x := by rw [hwd2]; simp
      have i2 := wd_ix h x2
      have hxl := hw x (List.mem_of_getElem? x2)
      have nin : wIn true (.str x) (.tup [.str [97, 110, 100], .str [111, 114]]) st = .ok (.bl (!inS JN (.str x))) st := in_S (x := .str x) (Nat.le_trans hxl (by decide)) true JN st
      rw [inS_mem] at nin
      have hlr : r2.length < n := by have := congrArg List.length hr; simp at this; omega
      have hrem : rem r2 ≤ rem r := by
        rw [hr]; simp only [rem, List.map_append, List.sum_append, List.map_cons, List.sum_cons]; omega
      have a2 := ih k (pre2 ++ [x]) r2 (by simp [hwd2]) hlr (by omega)
      rw [show (((pre2 ++ [x] : List (List Nat)).length : Nat) : Int) = (pre2.length : Int) + 1 by simp] at a2
      apply sat_seq
      · (walk_at "evs")
      by_cases hj : x ∈ JN
      · rw [decide_eq_true hj] at nin
        change _ = R.ok (W.bl false) st at nin
        apply sat_seq_f
        · apply k_bor_f
          · (walk_at "evs")
          · apply k_bor_f
            · (walk_at "evs")
            · (walk_at "evs")
        apply sat_next
        cases e2 : pa n r2 with
        | none =>
          rw [show pa (n + 1) ([40] :: r) = none by simp [pa, e1, e2]]
          rw [e2] at a2
          change _ = R.ok W.non st at a2
          apply sat_seq
          · (walk_at "evs")
          apply sat_seq_t
          · apply k_bor_t
            (walk_at "evs")
          apply sat_seq_ret
          · (walk_at "evs")
          · exact ⟨_, _, rfl, rfl, rfl⟩
        | some v =>
          obtain ⟨t, p⟩ := v
          obtain ⟨ht, hr2⟩ := pa_sound n r2 t p e2
          rw [e2] at a2
          cases p with
          | nil =>
            rw [show pa (n + 1) ([40] :: r) = none by simp [pa, e1, e2]]
            change _ = R.ok (W.tup [t.w, .int wd.length]) st at a2
            have d1 : decide ((wd.length : Int) ≤ (wd.length : Int)) = true := decide_eq_true (by omega)
            apply sat_seq
            · (walk_at "evs")
            apply sat_seq_t
            · apply k_bor_f
              · (walk_at "evs")
              · apply k_bor_t
                (walk_at "evs")
            apply sat_seq_ret
            · (walk_at "evs")
            · exact ⟨_, _, rfl, rfl, rfl⟩
          | cons z r3 =>
            obtain ⟨pre3, hp3⟩ : ∃ pre3, pre3 = pre2 ++ x :: t.words := ⟨_, rfl⟩
            have hwd3 : wd = pre3 ++ z :: r3 := by rw [hp3, hwd2, hr2]; simp
            have hl4 : wd.length - (z :: r3).length = pre3.length := by rw [hwd3]; simp
            have hl5 : wd.length = pre3.length + (r3.length + 1) := by rw [hwd3]; simp
            change _ = R.ok (W.tup [t.w, .int ((wd.length - (z :: r3).length : Nat) : Int)]) st at a2
            rw [hl4] at a2
            have d2 : decide ((wd.length : Int) ≤ (pre3.length : Int)) = false := decide_eq_false (by omega)
            have x3 : wd[pre3.length]? = some z := by rw [hwd3]; simp
            have i3 := wd_ix h x3
            have hzl := hw z (List.mem_of_getElem? x3)
            have q3 := ne_S (x := .str z) (Nat.le_trans hzl (by decide)) [41] st
            change _ = R.ok (W.bl (!(z == [41]))) st at q3
            apply sat_seq
            · (walk_at "evs")
            by_cases hz : z = [41]
            · subst hz
              change _ = R.ok (W.bl false) st at q3
              rw [show pa (n + 1) ([40] :: r) = some (.jn x s t, r3) by simp only [pa, e1, e2, if_pos hj, if_true]]
              apply sat_seq_f
              · apply k_bor_f
                · (walk_at "evs")
                · apply k_bor_f
                  · (walk_at "evs")
                  · (walk_at "evs")
              apply sat_next
              apply sat_ret
              · (walk_at "evs")
              · refine ⟨_, _, rfl, ?_, rfl⟩
                simp only [enc, Stm.w]
                congr 4
                omega
            · rw [show pa (n + 1) ([40] :: r) = none by simp only [pa, e1, e2, if_pos hj, if_true, if_neg hz]]
              rw [beq_eq_false_iff_ne.mpr hz] at q3
              change _ = R.ok (W.bl true) st at q3
              apply sat_seq_t
              · apply k_bor_f
                · (walk_at "evs")
                · apply k_bor_f
                  · (walk_at "evs")
                  · (walk_at "evs")
              apply sat_seq_ret
              · (walk_at "evs")
              · exact ⟨_, _, rfl, rfl, rfl⟩
      · rw [decide_eq_false hj] at nin
        change _ = R.ok (W.bl true) st at nin
        rw [show pa (n + 1) ([40] :: r) = none by simp only [pa, e1, if_neg hj, if_true]]
        apply sat_seq_t
        · apply k_bor_f
          · (walk_at "evs")
          · apply k_bor_f
            · (walk_at "evs")
            · (walk_at "evs")
        apply sat_seq_ret
        · (walk_at "evs")
        · exact ⟨_, _, rfl, rfl, rfl⟩
end
end P
set_option Elab.async false
set_option linter.all false
set_option maxRecDepth 100000
set_option maxHeartbeats 4000000
namespace P
open PySem L2
section
variable {st : List Cell} {nw : Nat} {wd : List (List Nat)}
theorem parsed_ok (h : st[nw]? = some (.lst (wd.map W.str))) (hw : ∀ w ∈ wd, w.length ≤ 10000) : ∀ (n k : Nat) (pre rest : List (List Nat)), wd = pre ++ rest → rest.length < n → rem rest + 1 ≤ k → f__law_parsed k [.loc nw, .int pre.length] st = .ok (enc wd (pa n rest)) st := by
  intro n
  induction n with
  | zero => intro _ _ _ _ z; exact absurd z (Nat.not_lt_zero _)
  | succ n ih =>
    intro k pre rest hwd hn hk
    obtain ⟨k, rfl⟩ : ∃ j, k = j + 1 := ⟨k - 1, by omega⟩
    have hlen := o_lenL (lstOf_l h)
    rw [List.length_map] at hlen
    refine run_self' (N := 4) (ws := [.loc nw, .int pre.length]) (body := g__law_parsed (f__law_joint k) (f__law_parsed k)) ?_
    cases rest with
    | nil =>
      have d0 : decide ((wd.length : Int) ≤ (pre.length : Int)) = true := decide_eq_true (by rw [hwd]; simp)
      apply sat_seq_t
      · (walk_at "evs")
      apply sat_seq_ret
      · (walk_at "evs")
      · exact ⟨_, _, rfl, rfl, rfl⟩
    | cons w r =>
      have hll : wd.length = pre.length + (r.length + 1) := by rw [hwd]; simp
      have d0 : decide ((wd.length : Int) ≤ (pre.length : Int)) = false := decide_eq_false (by omega)
      have x0 : wd[pre.length]? = some w := by rw [hwd]; simp
      have i0 := wd_ix h x0
      have hn' : r.length < n := by simp at hn; omega
      have hrem : rem (w :: r) = w.length + 1 + rem r := by simp [rem]
      rw [hrem] at hk
      have x1 : wd[pre.length + 1]? = r[0]? := by rw [hwd, List.getElem?_append_right (by omega)]; simp
      have x2 : wd[pre.length + 2]? = r[1]? := by rw [hwd, List.getElem?_append_right (by omega)]; simp
      have l0 := letter_at_ok h hw pre.length
      have l1 := letter_at_ok h hw (pre.length + 1)
      have l2 := letter_at_ok h hw (pre.length + 2)
      rw [show ((pre.length + 1 : Nat) : Int) = (pre.length : Int) + 1 from rfl, x1] at l1
      rw [show ((pre.length + 2 : Nat) : Int) = (pre.length : Int) + 2 from rfl, x2] at l2
      rw [x0] at l0
      apply sat_seq_f
      · (walk_at "evs")
      apply sat_next
      apply sat_seq
      · (walk_at "evs")
      by_cases c1 : w = [40]
      · subst c1
        have hj := joint_ok h hw ih hwd hn' (k := k) (by simp at hk; omega)
        apply sat_seq_t
        · (walk_at "evs")
        apply sat_seq_ret
        · (walk_at "evs")
        · exact ⟨_, _, rfl, rfl, rfl⟩
      have b40 : (w == [40]) = false := beq_eq_false_iff_ne.mpr c1
      apply sat_seq_f
      · (walk_at "evs")
      apply sat_next
      by_cases c2 : w = NOT
      · subst c2
        have a1 := ih k (pre ++ [NOT]) r (by simp [hwd]) hn' (by simp at hk; omega)
        rw [show (((pre ++ [NOT] : List (List Nat)).length : Nat) : Int) = (pre.length : Int) + 1 by simp] at a1
        apply sat_seq_t
        · (walk_at "evs")
        apply sat_assoc
        cases e : pa n r with
        | none =>
          rw [e] at a1
          change _ = R.ok W.non st at a1
          rw [show pa (n + 1) (NOT :: r) = none by simp [pa, e]]
          apply sat_seq
          · (walk_at "evs")
          apply sat_assoc
          apply sat_seq_t
          · (walk_at "evs")
          apply sat_seq_ret
          · (walk_at "evs")
          · exact ⟨_, _, rfl, rfl, rfl⟩
        | some v =>
          obtain ⟨s, p⟩ := v
          rw [e] at a1
          change _ = R.ok (W.tup [s.w, .int ((wd.length - p.length : Nat) : Int)]) st at a1
          rw [show pa (n + 1) (NOT :: r) = some (.neg s, p) by simp [pa, e]]
          apply sat_seq
          · (walk_at "evs")
          apply sat_assoc
          apply sat_seq_f
          · (walk_at "evs")
          apply sat_next
          apply sat_seq_ret
          · (walk_at "evs")
          · exact ⟨_, _, rfl, rfl, rfl⟩
      have bnot : (w == NOT) = false := beq_eq_false_iff_ne.mpr c2
      apply sat_seq_f
      · (walk_at "evs")
      apply sat_next
      by_cases c3 : w ∈ BND
      · have tb3 : (bor (asB (e2 wEq (eVar 2) (eC (.str [115, 111, 109, 101])))) (asB (e2 wEq (eVar 2) (eC (.str [97, 108, 108]))))) [some (.loc nw), some (.int pre.length), some (.str w), none] st = .ok true st := by
          have hb := c3; simp at hb
          rcases hb with rfl | rfl
          · apply k_bor_t
            (walk_at "evs")
          · apply k_bor_f
            · (walk_at "evs")
            · (walk_at "evs")
        have hw3 : 1 ≤ w.length := by have hb := c3; simp at hb; rcases hb with rfl | rfl <;> decide
        apply sat_seq_t
        · exact tb3
        apply sat_assoc
        cases r with
        | nil =>
          rw [show pa (n + 1) [w] = none by simp only [pa, if_neg c1, if_neg c2, if_pos c3]]
          change _ = R.ok (W.bl false) st at l1
          obtain ⟨k, rfl⟩ : ∃ j, k = j + 1 := ⟨k - 1, by omega⟩
          have a0 : f__law_parsed (k + 1) [.loc nw, .int ((pre.length : Int) + 2)] st = .ok .non st := by
            refine run_self' (N := 4) (ws := [.loc nw, .int ((pre.length : Int) + 2)]) (body := g__law_parsed (f__law_joint k) (f__law_parsed k)) ?_
            have d9 : decide ((wd.length : Int) ≤ (pre.length : Int) + 2) = true := decide_eq_true (by simp at hll; omega)
            apply sat_seq_t
            · (walk_at "evs")
            apply sat_seq_ret
            · (walk_at "evs")
            · exact ⟨_, _, rfl, rfl, rfl⟩
          apply sat_seq
          · (walk_at "evs")
          apply sat_assoc
          apply sat_seq_t
          · apply k_bor_t
            (walk_at "evs")
          apply sat_seq_ret
          · (walk_at "evs")
          · exact ⟨_, _, rfl, rfl, rfl⟩
        | cons x r2 =>
          have hrem2 : rem (x :: r2) = x.length + 1 + rem r2 := by simp [rem]
          have a1 := ih k (pre ++ [w, x]) r2 (by simp [hwd]) (by simp at hn'; omega) (by omega)
          rw [show (((pre ++ [w, x] : List (List Nat)).length : Nat) : Int) = (pre.length : Int) + 2 by simp] at a1
          have i1 := wd_ix h (q := pre.length + 1) x1
          rw [show ((pre.length + 1 : Nat) : Int) = (pre.length : Int) + 1 from rfl] at i1
          change _ = R.ok (W.bl (ltr x).isSome) st at l1
          cases e : pa n r2 with
          | none =>
            rw [e] at a1
            change _ = R.ok W.non st at a1
            rw [show pa (n + 1) (w :: x :: r2) = none by
              simp only [pa, if_neg c1, if_neg c2, if_pos c3, e]
              cases ltr x <;> rfl]
            apply sat_seq
            · (walk_at "evs")
            apply sat_assoc
            apply sat_seq_t
            · apply k_bor_t
              (walk_at "evs")
            apply sat_seq_ret
            · (walk_at "evs")
            · exact ⟨_, _, rfl, rfl, rfl⟩
          | some v =>
            obtain ⟨s, p⟩ := v
            rw [e] at a1
            change _ = R.ok (W.tup [s.w, .int ((wd.length - p.length : Nat) : Int)]) st at a1
            apply sat_seq
            · (walk_at "evs")
            apply sat_assoc
            cases el : ltr x with
            | none =>
              rw [el] at l1
              change _ = R.ok (W.bl false) st at l1
              rw [show pa (n + 1) (w :: x :: r2) = none by simp only [pa, if_neg c1, if_neg c2, if_pos c3, el]]
              apply sat_seq_t
              · apply k_bor_f
                · (walk_at "evs")
                · (walk_at "evs")
              apply sat_seq_ret
              · (walk_at "evs")
              · exact ⟨_, _, rfl, rfl, rfl⟩
            | some a =>
              rw [el] at l1
              change _ = R.ok (W.bl true) st at l1
              obtain ⟨ha, rfl⟩ := ltr_some el
              rw [show pa (n + 1) (w :: [a] :: r2) = some (.bnd w a s, p) by simp only [pa, if_neg c1, if_neg c2, if_pos c3, el, e]; rfl]
              apply sat_seq_f
              · apply k_bor_f
                · (walk_at "evs")
                · (walk_at "evs")
              apply sat_next
              apply sat_seq_ret
              · (walk_at "evs")
              · exact ⟨_, _, rfl, rfl, rfl⟩
      have tb3 : (bor (asB (e2 wEq (eVar 2) (eC (.str [115, 111, 109, 101])))) (asB (e2 wEq (eVar 2) (eC (.str [97, 108, 108]))))) [some (.loc nw), some (.int pre.length), some (.str w), none] st = .ok false st := by
        have hb := c3; simp at hb
        have b1 : (w == [115, 111, 109, 101]) = false := beq_eq_false_iff_ne.mpr hb.1
        have b2 : (w == [97, 108, 108]) = false := beq_eq_false_iff_ne.mpr hb.2
        apply k_bor_f
        · (walk_at "evs")
        · (walk_at "evs")
      apply sat_seq_f
      · exact tb3
      apply sat_next
      by_cases c4 : w = ONE
      · subst c4
        apply sat_seq_t
        · (walk_at "evs")
        apply sat_assoc
        cases r with
        | nil =>
          change _ = R.ok (W.bl false) st at l1
          rw [show pa (n + 1) [ONE] = none by simp only [pa, if_neg c1, if_neg c2, if_neg c3, if_true]]
          apply sat_seq_t
          · (walk_at "evs")
          apply sat_seq_ret
          · (walk_at "evs")
          · exact ⟨_, _, rfl, rfl, rfl⟩
        | cons x r2 =>
          have i1 := wd_ix h (q := pre.length + 1) x1
          rw [show ((pre.length + 1 : Nat) : Int) = (pre.length : Int) + 1 from rfl] at i1
          change _ = R.ok (W.bl (ltr x).isSome) st at l1
          cases el : ltr x with
          | none =>
            rw [el] at l1
            change _ = R.ok (W.bl false) st at l1
            rw [show pa (n + 1) (ONE :: x :: r2) = none by simp only [pa, if_neg c1, if_neg c2, if_neg c3, if_true, el]; rfl]
            apply sat_seq_t
            · (walk_at "evs")
            apply sat_seq_ret
            · (walk_at "evs")
            · exact ⟨_, _, rfl, rfl, rfl⟩
          | some a =>
            rw [el] at l1
            change _ = R.ok (W.bl true) st at l1
            obtain ⟨ha, rfl⟩ := ltr_some el
            rw [show pa (n + 1) (ONE :: [a] :: r2) = some (.one a, r2) by simp only [pa, if_neg c1, if_neg c2, if_neg c3, if_true, el]; rfl]
            apply sat_seq_f
            · (walk_at "evs")
            apply sat_next
            apply sat_seq_ret
            · (walk_at "evs")
            · refine ⟨_, _, rfl, ?_, rfl⟩
              simp only [enc, Stm.w]
              congr 4
              simp at hll
              omega
      have bone : (w == ONE) = false := beq_eq_false_iff_ne.mpr c4
      apply sat_seq_f
      · (walk_at "evs")
      apply sat_next
      change _ = R.ok (W.bl (ltr w).isSome) st at l0
      cases ew : ltr w with
      | none =>
        rw [ew] at l0
        change _ = R.ok (W.bl false) st at l0
        rw [show pa (n + 1) (w :: r) = none by
          simp only [pa, if_neg c1, if_neg c2, if_neg c3, if_neg c4, ew]
          split <;> rfl]
        apply sat_seq_t
        · apply k_bor_t
          (walk_at "evs")
        apply sat_seq_ret
        · (walk_at "evs")
        · exact ⟨_, _, rfl, rfl, rfl⟩
      | some a =>
        rw [ew] at l0
        change _ = R.ok (W.bl true) st at l0
        obtain ⟨ha, rfl⟩ := ltr_some ew
        have bad2 : r.length < 2 → Sat (rtP fun w' st' => w' = enc wd (pa (n + 1) ([a] :: r)) ∧ st' = st) ((xSeq (xIf (bor (bnt (asB (eDef 2 f__law_letter_at (aCons (eVar 0) (aCons (eVar 1) aNil))))) (bnt (asB (eDef 2 f__law_letter_at (aCons (eVar 0) (aCons (e2 wAdd (eVar 1) (eC (.int 2))) aNil)))))) (xRet (eC .non)) xNext) (xSeq (xIf (asB (e2 (wIn true) (e2 wIx (eVar 0) (e2 wAdd (eVar 1) (eC (.int 1)))) (eTup (wStrs [[105, 110], [108, 101, 102, 116], [114, 105, 103, 104, 116], [98, 101, 108, 111, 119]])))) (xRet (eC .non)) xNext) (xRet (eTup (aCons (eTup (aCons (e2 wIx (eVar 0) (e2 wAdd (eVar 1) (eC (.int 1)))) (aCons (eVar 2) (aCons (e2 wIx (eVar 0) (e2 wAdd (eVar 1) (eC (.int 2)))) aNil)))) (aCons (e2 wAdd (eVar 1) (eC (.int 3))) aNil)))))) [some (.loc nw), some (.int pre.length), some (.str [a]), none] st) := by
          intro hr
          rw [show r[1]? = none by simp; omega] at l2
          change _ = R.ok (W.bl false) st at l2
          rw [show pa (n + 1) ([a] :: r) = none by
            match r, hr with
            | [], _ => simp only [pa, if_neg c1, if_neg c2, if_neg c3, if_neg c4]
            | [_], _ => simp only [pa, if_neg c1, if_neg c2, if_neg c3, if_neg c4]
            | _ :: _ :: _, z => simp at z; omega]
          apply sat_seq_t
          · apply k_bor_f
            · (walk_at "evs")
            · (walk_at "evs")
          apply sat_seq_ret
          · (walk_at "evs")
          · exact ⟨_, _, rfl, rfl, rfl⟩
        rcases r with _ | ⟨x, _ | ⟨y, r3⟩⟩
        · exact bad2 (by simp)
        · exact bad2 (by simp)
        · clear bad2
          have i1 := wd_ix h (q := pre.length + 1) x1
          have i2 := wd_ix h (q := pre.length + 2) x2
          rw [show ((pre.length + 1 : Nat) : Int) = (pre.length : Int) + 1 from rfl] at i1
          rw [show ((pre.length + 2 : Nat) : Int) = (pre.length : Int) + 2 from rfl] at i2
          have hxl := hw x (List.mem_of_getElem? x1)
          change _ = R.ok (W.bl (ltr y).isSome) st at l2
          cases ey : ltr y with
          | none =>
            rw [ey] at l2
            change _ = R.ok (W.bl false) st at l2
            rw [show pa (n + 1) ([a] :: x :: y :: r3) = none by simp only [pa, if_neg c1, if_neg c2, if_neg c3, if_neg c4, ew, ey]]
            apply sat_seq_t
            · apply k_bor_f
              · (walk_at "evs")
              · (walk_at "evs")
            apply sat_seq_ret
            · (walk_at "evs")
            · exact ⟨_, _, rfl, rfl, rfl⟩
          | some b =>
            rw [ey] at l2
            change _ = R.ok (W.bl true) st at l2
            obtain ⟨hb, rfl⟩ := ltr_some ey
            have nin := in_S (x := .str x) (Nat.le_trans hxl (by decide)) true TWO st
            rw [inS_mem] at nin
            apply sat_seq_f
            · apply k_bor_f
              · (walk_at "evs")
              · (walk_at "evs")
            apply sat_next
            by_cases hk2 : x ∈ TWO
            · rw [decide_eq_true hk2] at nin
              change _ = R.ok (W.bl false) st at nin
              rw [show pa (n + 1) ([a] :: x :: [b] :: r3) = some (.two x a b, r3) by simp only [pa, if_neg c1, if_neg c2, if_neg c3, if_neg c4, ew, ey, if_pos hk2]]
              apply sat_seq_f
              · (repeat' (first | with_reducible exact nin | walk_at "ev1"))
              apply sat_next
              apply sat_ret
              · (walk_at "evs")
              · refine ⟨_, _, rfl, ?_, rfl⟩
                simp only [enc, Stm.w]
                congr 4
                simp at hll
                omega
            · rw [decide_eq_false hk2] at nin
              change _ = R.ok (W.bl true) st at nin
              rw [show pa (n + 1) ([a] :: x :: [b] :: r3) = none by simp only [pa, if_neg c1, if_neg c2, if_neg c3, if_neg c4, ew, ey, if_neg hk2]]
              apply sat_seq_t
              · (repeat' (first | with_reducible exact nin | walk_at "ev1"))
              apply sat_seq_ret
              · (walk_at "evs")
              · exact ⟨_, _, rfl, rfl, rfl⟩
end
end P
set_option Elab.async false
set_option linter.all false
set_option maxRecDepth 100000
set_option maxHeartbeats 4000000
namespace P
open PySem L2
theorem words_gen {st : List Cell} {nw : Nat} {wd : List (List Nat)} {r0 : List W} {P : RS → Prop} (h : st[nw]? = some (.lst (wd.map W.str))) (hf : Feed wd [] r0)
    (he : ∀ (j : Nat) (g : List Cell) (o2 o3 : Option W), g[j]? = some (.lst r0.reverse) → Sat P (xSeq (xIf (bor (asB (e2 wNe (eCall bLen (aCons (eVar 1) aNil)) (eC (.int 1)))) (bnt (asB (eDef 1 f_is_said (aCons (e2 wIx (eVar 1) (eC (.int 0))) aNil))))) (xRaise "NoStatement") xNext) (xRet (e2 wIx (eVar 1) (eC (.int 0)))) [some (.loc nw), some (.loc (st.length + j)), o2, o3] (st ++ g))) :
    Sat P (g_read_words ([W.loc nw].map some ++ List.replicate (4 - 1) none) st) := by
  apply sat_seq
  · (walk_at "evs")
  refine sat_for (fun i ρ st' => ∃ (r : List W) (j : Nat) (g : List Cell) (o2 o3 : Option W), ρ = [some (.loc nw), some (.loc (st.length + j)), o2, o3] ∧ st' = st ++ g ∧ g[j]? = some (.lst r.reverse) ∧ Feed (wd.drop i) r r0)
    (k := (wd.map W.str, some (nw, wd.map W.str))) (i_any_l (by (walk_at "evs")) (lstOf_l (cell_old h))) ⟨[], 0, [.lst []], none, none, rfl, rfl, rfl, hf⟩ ?_ ?_ ?_
  · rintro i ρ st' ⟨r, j, g, o2, o3, rfl, rfl, _⟩
    exact lstOf_l (cell_old h)
  · rintro i w ρ st' hw ⟨r, j, g, o2, o3, rfl, rfl, hg, hF⟩
    obtain ⟨w0, hw0, rfl⟩ : ∃ w0, wd[i]? = some w0 ∧ w = .str w0 := by
      simp only [List.getElem?_map, Option.map_eq_some_iff] at hw
      obtain ⟨d, h1, rfl⟩ := hw
      exact ⟨d, h1, rfl⟩
    have hi : i < wd.length := (List.getElem?_eq_some_iff.mp hw0).1
    have hdr : wd.drop i = w0 :: wd.drop (i + 1) := by
      rw [List.drop_eq_getElem_cons hi]
      congr 1
      exact (List.getElem?_eq_some_iff.mp hw0).2
    rw [hdr] at hF
    cases hF with
    | @cons n _ _ _ r1 _ hR hF =>
    refine ⟨_, rfl, ?_⟩
    have hG := hR.all
    have hc : (st ++ g)[st.length + j]? = some (.lst r.reverse) := by rw [cell_at]; exact hg
    have hjl : j < g.length := (List.getElem?_eq_some_iff.mp hg).1
    have hl : r.reverse.length < LIM := by have := hG.2; simp at this ⊢; show _ < 1000000; omega
    apply sat_seq
    · (repeat' (first | with_reducible exact k_isLst hc | with_reducible exact o_app hc hl | walk_at "ev1"))
    rw [cell_set]
    have hg' : (g.set j (.lst (r.reverse ++ [.str w0])))[j]? = some (.lst (.str w0 :: r).reverse) := by simp [hjl]
    generalize g.set j (.lst (r.reverse ++ [.str w0])) = g' at hg'
    have hc' : (st ++ g')[st.length + j]? = some (.lst (.str w0 :: r).reverse) := by rw [cell_at]; exact hg'
    have he := end_ok hc' hG.1 (by simp)
    apply sat_seq
    · (walk_at "evs")
    refine sat_while' (fun n ρ st' => ∃ (r : List W) (j : Nat) (g : List Cell), ρ = [some (.loc nw), some (.loc (st.length + j)), some (.str w0), some (endR r)] ∧ st' = st ++ g ∧ g[j]? = some (.lst r.reverse) ∧ Red n r r1) n ⟨_, j, g', rfl, rfl, hg', hR⟩ ?_ ?_
    · rintro n ρ st' ⟨r, j, g, rfl, rfl, hg, hR⟩
      cases hR with
      | stop hA hn =>
        left
        have hb : (!(endR r1).isNon) = false := by rw [hn]; rfl
        (walk_at "evs")
      | @step n _ _ x ws hA hE hx hle hR =>
        right
        have hA2 := hR.all
        have hc : (st ++ g)[st.length + j]? = some (.lst r.reverse) := by rw [cell_at]; exact hg
        have hlen := len_r hc
        have hwm := wm_ok (ws := ws) hx (st ++ g)
        constructor
        · rw [hE]
          (walk_at "evs")
        · rw [hE]
          have hsl := o_slL (l := none) (h := some ((r.length : Int) - ((wm (.tup (x :: ws)) : Nat) : Int))) (lstOf_l hc)
          rw [cut_rev hle] at hsl
          have c1 : ((st ++ g) ++ [Cell.lst (r.drop (wm (.tup (x :: ws)))).reverse] ++ [Cell.lst [.tup (x :: ws)]])[(st ++ g).length]? = some (.lst (r.drop (wm (.tup (x :: ws)))).reverse) := cell_old (by rw [cell_at0]; rfl)
          have c2 : ((st ++ g) ++ [Cell.lst (r.drop (wm (.tup (x :: ws)))).reverse] ++ [Cell.lst [.tup (x :: ws)]])[((st ++ g) ++ [Cell.lst (r.drop (wm (.tup (x :: ws)))).reverse]).length]? = some (.lst [.tup (x :: ws)]) := by rw [cell_at0]; rfl
          have hsz : ((r.drop (wm (.tup (x :: ws)))).reverse ++ [W.tup (x :: ws)]).length ≤ LIM := by
            have := hA2.2
            simp at this ⊢; show _ ≤ 1000000; omega
          have hadd := o_addL c1 c2 hsz
          apply sat_seq
          · (walk_at "evs")
          have hst : st ++ g ++ [Cell.lst (r.drop (wm (.tup (x :: ws)))).reverse] ++ [Cell.lst [.tup (x :: ws)]] ++ [Cell.lst ((r.drop (wm (.tup (x :: ws)))).reverse ++ [W.tup (x :: ws)])] = st ++ (g ++ [Cell.lst (r.drop (wm (.tup (x :: ws)))).reverse, Cell.lst [.tup (x :: ws)], Cell.lst ((r.drop (wm (.tup (x :: ws)))).reverse ++ [W.tup (x :: ws)])]) := by simp
          have hln : (st ++ g ++ [Cell.lst (r.drop (wm (.tup (x :: ws)))).reverse] ++ [Cell.lst [.tup (x :: ws)]]).length = st.length + (g.length + 2) := by simp <;> omega
          rw [hst, hln]
          have hg2 : (g ++ [Cell.lst (r.drop (wm (.tup (x :: ws)))).reverse, Cell.lst [.tup (x :: ws)], Cell.lst ((r.drop (wm (.tup (x :: ws)))).reverse ++ [W.tup (x :: ws)])])[g.length + 2]? = some (.lst (W.tup (x :: ws) :: r.drop (wm (.tup (x :: ws)))).reverse) := by rw [cell_at]; simp
          generalize (g ++ [Cell.lst (r.drop (wm (.tup (x :: ws)))).reverse, Cell.lst [.tup (x :: ws)], Cell.lst ((r.drop (wm (.tup (x :: ws)))).reverse ++ [W.tup (x :: ws)])]) = g2 at hg2
          have hc2 : (st ++ g2)[st.length + (g.length + 2)]? = some (.lst (W.tup (x :: ws) :: r.drop (wm (.tup (x :: ws)))).reverse) := by rw [cell_at]; exact hg2
          have he2 := end_ok hc2 hA2.1 (by simp)
          apply sat_eq
          · (walk_at "evs")
          · exact ⟨_, _, rfl, n, by omega, _, _, _, rfl, rfl, hg2, hR⟩
    · rintro m ρ st' ⟨r, j, g, rfl, rfl, hg, hR⟩ ht
      cases hR with
      | stop hA hn => exact ⟨_, _, rfl, _, _, _, _, _, rfl, rfl, hg, hF⟩
      | @step n _ _ x ws hA hE hx hle hR =>
        exfalso
        have : asB (eNotN (eVar 3)) [some (.loc nw), some (.loc (st.length + j)), some (.str w0), some (endR r)] (st ++ g) = .ok true (st ++ g) := by
          rw [hE]
          (walk_at "evs")
        rw [this] at ht
        cases ht
  · rintro ρ st' ⟨r, j, g, o2, o3, rfl, rfl, hg, hF⟩
    have hd : wd.drop (wd.map W.str).length = [] := by simp
    rw [show ((wd.map W.str, some (nw, wd.map W.str)) : Walk).1 = wd.map W.str from rfl, hd] at hF
    cases hF
    exact he j g o2 o3 hg
/-! ### parts, words -/
def inner : Stm → List Stm
  | .one _ => []
  | .two _ _ _ => []
  | .neg s => [s]
  | .bnd _ _ s => [s]
  | .jn _ s t => [s, t]
theorem inner_ok (s : Stm) (h : s.ok) (st : List Cell) : f_inner_of [s.w] st = .ok (.tup ((inner s).map Stm.w)) st := by
  have key : ∀ (k : List Nat) (ws : List W), Gd (.str k) → f_is_plain [.tup (.str k :: ws)] st = .ok (.bl ((k == ONE) || inS TWO (.str k))) st := by
    intro k ws hk
    have i0 : wIx (.tup (.str k :: ws)) (.int 0) st = .ok (.str k) st := o_ixT (at_nat (q := 0) rfl)
    have t := in_TWO' hk st
    apply run_self'
    cases e : k == ONE with
    | true =>
      apply sat_ret
      · apply k_or_t
        (walk_at "evs")
      · exact ⟨_, _, rfl, rfl, rfl⟩
    | false =>
      apply sat_ret
      · apply k_or_f
        · (walk_at "evs")
        · (walk_at "evs")
      · exact ⟨_, _, rfl, rfl, rfl⟩
  cases s with
  | one a =>
    have hp : f_is_plain [(Stm.one a).w] st = .ok (.bl true) st := key ONE [.str [a]] (gd_str (by decide))
    apply run_self'
    apply sat_seq_t
    · (repeat' (first | with_reducible exact hp | walk_at "ev1"))
    apply sat_seq_ret
    · (walk_at "evs")
    · exact ⟨_, _, rfl, rfl, rfl⟩
  | two k a b =>
    have hk := h.1; simp at hk
    have hp := key k [.str [a], .str [b]] (gd_str (by rcases hk with rfl | rfl | rfl | rfl <;> decide))
    rw [show ((k == ONE) || inS TWO (.str k)) = true from by rcases hk with rfl | rfl | rfl | rfl <;> decide] at hp
    have hp : f_is_plain [(Stm.two k a b).w] st = .ok (.bl true) st := hp
    apply run_self'
    apply sat_seq_t
    · (repeat' (first | with_reducible exact hp | walk_at "ev1"))
    apply sat_seq_ret
    · (walk_at "evs")
    · exact ⟨_, _, rfl, rfl, rfl⟩
  | neg s =>
    have hp : f_is_plain [(Stm.neg s).w] st = .ok (.bl false) st := key NOT [s.w] (gd_str (by decide))
    have hb : wIn false (.str NOT) c_BINDING st = .ok (.bl false) st := in_BND' (gd_str (l := NOT) (by decide)) st
    have i0 : wIx (Stm.neg s).w (.int 0) st = .ok (.str NOT) st := rfl
    apply run_self'
    apply sat_seq_f
    · (repeat' (first | with_reducible exact hp | walk_at "ev1"))
    apply sat_next
    apply sat_seq_f
    · (repeat' (first | with_reducible exact i0 | with_reducible exact hb | walk_at "ev1"))
    apply sat_next
    apply sat_ret
    · apply k_sl
      · (walk_at "evs")
      · (walk_at "evs")
      · (walk_at "evs")
      · exact rfl
    · exact ⟨_, _, rfl, rfl, rfl⟩
  | bnd k a s =>
    have hk := h.1; simp at hk
    have hk5 : Gd (.str k) := gd_str (by rcases hk with rfl | rfl <;> decide)
    have hp := key k [.str [a], s.w] hk5
    rw [show ((k == ONE) || inS TWO (.str k)) = false from by rcases hk with rfl | rfl <;> decide] at hp
    have hb := in_BND' hk5 st
    rw [show inS BND (.str k) = true from by rcases hk with rfl | rfl <;> decide] at hb
    have hp : f_is_plain [(Stm.bnd k a s).w] st = .ok (.bl false) st := hp
    have i0 : wIx (Stm.bnd k a s).w (.int 0) st = .ok (.str k) st := rfl
    apply run_self'
    apply sat_seq_f
    · (repeat' (first | with_reducible exact hp | walk_at "ev1"))
    apply sat_next
    apply sat_seq_t
    · (repeat' (first | with_reducible exact i0 | with_reducible exact hb | walk_at "ev1"))
    apply sat_seq_ret
    · apply k_sl
      · (walk_at "evs")
      · (walk_at "evs")
      · (walk_at "evs")
      · exact rfl
    · exact ⟨_, _, rfl, rfl, rfl⟩
  | jn k s t =>
    have hk := h.1; simp at hk
    have hk5 : Gd (.str k) := gd_str (by rcases hk with rfl | rfl <;> decide)
    have hp := key k [s.w, t.w] hk5
    rw [show ((k == ONE) || inS TWO (.str k)) = false from by rcases hk with rfl | rfl <;> decide] at hp
    have hb := in_BND' hk5 st
    rw [show inS BND (.str k) = false from by rcases hk with rfl | rfl <;> decide] at hb
    have hp : f_is_plain [(Stm.jn k s t).w] st = .ok (.bl false) st := hp
    have i0 : wIx (Stm.jn k s t).w (.int 0) st = .ok (.str k) st := rfl
    apply run_self'
    apply sat_seq_f
    · (repeat' (first | with_reducible exact hp | walk_at "ev1"))
    apply sat_next
    apply sat_seq_f
    · (repeat' (first | with_reducible exact i0 | with_reducible exact hb | walk_at "ev1"))
    apply sat_next
    apply sat_ret
    · apply k_sl
      · (walk_at "evs")
      · (walk_at "evs")
      · (walk_at "evs")
      · exact rfl
    · exact ⟨_, _, rfl, rfl, rfl⟩
theorem inner_sum (s : Stm) : psum (inner s) + 1 = s.parts := by cases s <;> simp [inner, psum, Stm.parts]
theorem inner_all {s : Stm} (h : s.ok) : ∀ t ∈ inner s, t.ok := by
  cases s <;> simp [inner] <;> first | exact h | exact h.2.2 | exact ⟨h.2.1, h.2.2⟩
theorem psum_app (a b : List Stm) : psum (a ++ b) = psum a + psum b := by simp [psum]
theorem psum_len (a : List Stm) : a.length ≤ psum a := by
  induction a with
  | nil => simp
  | cons x r ih => have := parts_pos x; simp [psum] at ih ⊢; omega
theorem parts_ok (s : Stm) (h : s.ok) (hp : s.parts ≤ 100) (st : List Cell) : f_parts_many [s.w] st = .ok (.int s.parts) st := by
  refine run_is (N := 3) (ws := [s.w]) (body := g_parts_many) ?_ rfl
  apply sat_seq
  · (walk_at "evs")
  apply sat_seq
  · (walk_at "evs")
  refine sat_while (fun n ρ st' => ∃ (m : Nat) (l : List Stm), ρ = [some s.w, some (.int m), some (.loc st.length)] ∧ st' = st ++ [.lst (l.map Stm.w)] ∧ m + psum l = s.parts ∧ psum l = n ∧ ∀ t ∈ l, t.ok) s.parts
    ⟨0, [s], rfl, rfl, by simp [psum], by simp [psum], by simpa using h⟩ ?_ ?_
  · rintro n ρ st' ⟨m, l, rfl, rfl, hm, hn, hok⟩
    have hc : (st ++ [Cell.lst (l.map Stm.w)])[st.length]? = some (.lst (l.map Stm.w)) := by rw [cell_at0]; rfl
    have hlen := o_lenL (lstOf_l hc)
    rw [List.length_map] at hlen
    by_cases hl : l = []
    · left
      subst hl
      (walk_at "evs")
    · right
      obtain ⟨l', x, rfl⟩ : ∃ l' x, l = l' ++ [x] := ⟨l.dropLast, l.getLast hl, (List.dropLast_concat_getLast _).symm⟩
      constructor
      · have : decide ((0 : Int) < ((l' ++ [x]).length : Nat)) = true := decide_eq_true (by simp <;> omega)
        (walk_at "evs")
      have hpop : (st ++ [Cell.lst ((l' ++ [x]).map Stm.w)])[st.length]? = some (.lst (l'.map Stm.w ++ [x.w])) := by rw [hc]; simp
      have hc2 : (st ++ [Cell.lst ((l' ++ [x]).map Stm.w)].set 0 (.lst (l'.map Stm.w)))[st.length]? = some (.lst (l'.map Stm.w)) := by rw [cell_at0]; rfl
      have o1 := o_pop hpop
      rw [cell_set0] at o1
      have hi := inner_ok x (hok x (by simp)) (st ++ [Cell.lst ((l' ++ [x]).map Stm.w)].set 0 (.lst (l'.map Stm.w)))
      have hll := psum_len (l' ++ [x])
      have hle : (l'.map Stm.w).length + ((inner x).map Stm.w).length ≤ LIM := by
        have h1 := psum_len (inner x)
        have h2 := inner_sum x
        rw [psum_app] at hm hll
        simp [psum] at hm hll h1 h2 ⊢
        show _ ≤ 1000000
        omega
      have o2 := o_extT hc2 hle
      rw [cell_set0] at o2
      apply sat_seq
      · (walk_at "evs")
      apply sat_eq
      · (repeat' (first | with_reducible exact k_isLst hc | walk_at "ev1"))
      · refine ⟨_, _, rfl, psum (l' ++ inner x), ?_, m + 1, l' ++ inner x, rfl, by simp, ?_, rfl, ?_⟩
        · have := inner_sum x
          rw [← hn, psum_app, psum_app]; simp [psum] at this ⊢; omega
        · have := inner_sum x
          rw [← hm, psum_app, psum_app]; simp [psum] at this ⊢; omega
        · intro t ht
          rcases List.mem_append.mp ht with ht | ht
          · exact hok t (List.mem_append_left _ ht)
          · exact inner_all (hok x (by simp)) t ht
  · rintro n ρ st' ⟨m, l, rfl, rfl, hm, hn, hok⟩ ht
    have hc : (st ++ [Cell.lst (l.map Stm.w)])[st.length]? = some (.lst (l.map Stm.w)) := by rw [cell_at0]; rfl
    have hlen := o_lenL (lstOf_l hc)
    rw [List.length_map] at hlen
    have hl : l = [] := by
      cases l with
      | nil => rfl
      | cons x r =>
        exfalso
        have hd : decide ((0 : Int) < ((x :: r).length : Nat)) = true := decide_eq_true (by simp <;> omega)
        have : asB (e2 wGt (eCall bLen (aCons (eVar 2) aNil)) (eC (.int 0))) [some s.w, some (.int m), some (.loc st.length)] (st ++ [Cell.lst ((x :: r).map Stm.w)]) = .ok true (st ++ [Cell.lst ((x :: r).map Stm.w)]) := by (walk_at "evs")
        rw [this] at ht
        cases ht
    subst hl
    apply sat_ret
    · (walk_at "evs")
    · exact ⟨_, _, rfl, by simp [psum] at hm; rw [hm], _, rfl⟩
/-! ### a text's words -/
theorem joinN_app {c : Nat} : ∀ {a b : List (List Nat)}, a ≠ [] → b ≠ [] → joinN [c] (a ++ b) = joinN [c] a ++ c :: joinN [c] b
  | [], _, h, _ => absurd rfl h
  | [x], y :: r, _, _ => by rw [List.singleton_append, joinN_tail]; rfl
  | [x], [], _, h => absurd rfl h
  | x :: y :: r, b, _, h => by
    have := joinN_app (c := c) (a := y :: r) (b := b) (by simp) h
    rw [List.cons_append, List.cons_append, joinN_tail, ← List.cons_append, this, joinN_tail]
    simp
theorem words_ne : ∀ s : Stm, s.words ≠ []
  | .one _ => by simp [Stm.words]
  | .two _ _ _ => by simp [Stm.words]
  | .neg _ => by simp [Stm.words]
  | .bnd _ _ _ => by simp [Stm.words]
  | .jn _ _ _ => by simp [Stm.words]
theorem joinN_cons {c : Nat} {x : List Nat} {r : List (List Nat)} (h : r ≠ []) : joinN [c] (x :: r) = x ++ c :: joinN [c] r := by
  cases r with
  | nil => exact absurd rfl h
  | cons y r => exact joinN_tail
theorem txt_join : ∀ s : Stm, joinN [32] s.words = s.txt
  | .one a => rfl
  | .two k a b => by simp only [Stm.words, Stm.txt, joinN_tail]; rfl
  | .neg s => by simp only [Stm.words, Stm.txt]; rw [joinN_cons (words_ne s), txt_join s]
  | .bnd k a s => by simp only [Stm.words, Stm.txt]; rw [joinN_cons (by simp), joinN_cons (words_ne s), txt_join s]; simp
  | .jn k s t => by
    simp only [Stm.words, Stm.txt]
    rw [joinN_cons (by simp), joinN_app (words_ne s) (by simp), joinN_cons (by simp), joinN_app (words_ne t) (by simp), txt_join s, txt_join t]
    rfl
theorem LL_32 {a : Nat} (h : a ∈ LL) : a ≠ 32 := fun z => by subst z; exact absurd h (by decide)
theorem words_free : ∀ s : Stm, s.ok → ∀ w ∈ s.words, 32 ∉ w
  | .one a, h, w, hw => by
    simp only [Stm.words, List.mem_cons, List.not_mem_nil, or_false] at hw
    rcases hw with rfl | rfl
    · decide
    · simpa using fun z => LL_32 h z.symm
  | .two k a b, h, w, hw => by
    have hk := h.1; simp at hk
    simp only [Stm.words, List.mem_cons, List.not_mem_nil, or_false] at hw
    rcases hw with rfl | rfl | rfl
    · simpa using fun z => LL_32 h.2.1 z.symm
    · rcases hk with rfl | rfl | rfl | rfl <;> decide
    · simpa using fun z => LL_32 h.2.2 z.symm
  | .neg s, h, w, hw => by
    simp only [Stm.words, List.mem_cons] at hw
    rcases hw with rfl | hw
    · decide
    · exact words_free s h w hw
  | .bnd k a s, h, w, hw => by
    have hk := h.1; simp at hk
    simp only [Stm.words, List.mem_cons] at hw
    rcases hw with rfl | rfl | hw
    · rcases hk with rfl | rfl <;> decide
    · simpa using fun z => LL_32 h.2.1 z.symm
    · exact words_free s h.2.2 w hw
  | .jn k s t, h, w, hw => by
    have hk := h.1; simp at hk
    simp only [Stm.words, List.mem_cons, List.mem_append, List.not_mem_nil, or_false] at hw
    rcases hw with rfl | hw | rfl | hw | rfl
    · decide
    · exact words_free s h.2.1 w hw
    · rcases hk with rfl | rfl <;> decide
    · exact words_free t h.2.2 w hw
    · decide
theorem split_txt (s : Stm) (h : s.ok) : splitN 32 s.txt = s.words :=
  joinN_inj _ _ (splitN_ne _ _) (words_ne s) (splitN_free _ _) (words_free s h) (by rw [splitN_join, txt_join])
end P
set_option Elab.async false
set_option linter.all false
set_option maxRecDepth 100000
set_option maxHeartbeats 4000000
namespace P
open PySem L2
/-! ### lengths -/
theorem rem_join : ∀ {ls : List (List Nat)}, ls ≠ [] → (joinN [32] ls).length + 1 = rem ls
  | [], h => absurd rfl h
  | [x], _ => by simp [joinN, rem]
  | x :: y :: r, _ => by
    have := rem_join (ls := y :: r) (by simp)
    rw [joinN_tail]
    simp [rem] at this ⊢
    omega
theorem rem_split (l : List Nat) : rem (splitN 32 l) = l.length + 1 := by
  rw [← rem_join (splitN_ne 32 l), splitN_join]
theorem rem_mem {ls : List (List Nat)} {w : List Nat} (h : w ∈ ls) : w.length + 1 ≤ rem ls := by
  induction ls with
  | nil => cases h
  | cons x r ih =>
    simp only [rem, List.map_cons, List.sum_cons] at ih ⊢
    rcases List.mem_cons.mp h with rfl | h
    · omega
    · have := ih h; omega
theorem rem_len (ls : List (List Nat)) : ls.length ≤ rem ls := by
  induction ls with
  | nil => simp
  | cons x r ih => simp [rem] at ih ⊢; omega
theorem rem_app (a b : List (List Nat)) : rem (a ++ b) = rem a + rem b := by simp [rem]
theorem rem_cons (a : List Nat) (b : List (List Nat)) : rem (a :: b) = a.length + 1 + rem b := by simp [rem]
theorem rem_stm : ∀ s : Stm, s.ok → 4 * s.parts ≤ rem s.words
  | .one _, _ => by simp [Stm.parts, Stm.words, rem]
  | .two k _ _, h => by simp [Stm.parts, Stm.words, rem]; omega
  | .neg s, h => by have := rem_stm s h; simp only [Stm.parts, Stm.words, rem_cons, List.length_cons, List.length_nil]; omega
  | .bnd k _ s, h => by
    have := rem_stm s h.2.2
    have hk := h.1; simp at hk
    have : 3 ≤ k.length := by rcases hk with rfl | rfl <;> decide
    simp only [Stm.parts, Stm.words, rem_cons, List.length_cons, List.length_nil]; omega
  | .jn k s t, h => by
    have := rem_stm s h.2.1
    have := rem_stm t h.2.2
    simp only [Stm.parts, Stm.words, rem_cons, rem_app, List.length_cons, List.length_nil]; omega
/-! ### the program's reading -/
def dueS (l : List Nat) : Option Stm := match pa ((splitN 32 l).length + 1) (splitN 32 l) with
  | some (s, []) => some s
  | _ => none
theorem dueS_some {l : List Nat} {s : Stm} (h : dueS l = some s) : s.ok ∧ splitN 32 l = s.words := by
  unfold dueS at h
  split at h
  · rename_i s' e
    cases h
    have := pa_sound _ _ _ _ e
    simpa using this
  · cases h
theorem dueS_of {l : List Nat} {s : Stm} (ho : s.ok) (h : splitN 32 l = s.words) : dueS l = some s := by
  have := pa_full s [] ((splitN 32 l).length + 1) ho (by have := parts_words s; rw [h]; omega)
  rw [List.append_nil] at this
  unfold dueS
  rw [h] at this ⊢
  rw [this]
theorem parts_le {l : List Nat} {s : Stm} (hl : l.length ≤ 300) (ho : s.ok) (h : splitN 32 l = s.words) : s.parts ≤ 75 := by
  have a := rem_stm s ho
  have b := rem_split l
  rw [h] at b
  omega
theorem gdIt (r : List It) (ho : ∀ x ∈ r, x.ok) : ∀ x ∈ r.map It.w, Gd x := fun x hx => by obtain ⟨y, hy, rfl⟩ := List.mem_map.mp hx; exact It.gd (ho y hy)
theorem words_some {l : List Nat} {s : Stm} (hl : l.length ≤ 300) (hs : dueS l = some s) {st : List Cell} {nw : Nat} (h : st[nw]? = some (.lst ((splitN 32 l).map W.str))) : f_read_words [.loc nw] st = .ok s.w st := by
  obtain ⟨ho, hw⟩ := dueS_some hs
  have hp := parts_le hl ho hw
  rw [hw] at h
  have ga : AllG [] := ⟨by simp, by simp⟩
  have gs : AllG [s.w] := ga.cons (gd_stm (by omega)) (by simp)
  have hF : Feed s.words [] [s.w] := feed_stm s [] ho (by omega) ga (by simp; omega) (fun x hx => by cases hx) 0 _ (.stop gs (by
    rw [endR_of3 (e := .non) rfl (by simp only [frontR, said_stm]; rfl) rfl]; rfl))
  exact words_ok h hF (by omega)
theorem words_none {l : List Nat} (hl : l.length ≤ 300) (hs : dueS l = none) {st : List Cell} {nw : Nat} (h : st[nw]? = some (.lst ((splitN 32 l).map W.str))) : f_read_words [.loc nw] st = .ex "NoStatement" st := by
  have hr := rem_split l
  have hlen := rem_len (splitN 32 l)
  obtain ⟨r, hF, ho, hw⟩ := feed_any (splitN 32 l) [] (fun w hw => by have := rem_mem hw; omega) (by simp; omega) (by simp)
  have hw : itWords r = splitN 32 l := by simpa [itWords] using hw
  refine run_exc (N := 4) (ws := [.loc nw]) (body := g_read_words) (words_gen h hF ?_)
  intro j g o2 o3 hg
  have hc : (st ++ g)[st.length + j]? = some (.lst (r.map It.w).reverse) := by rw [cell_at]; exact hg
  have hlen := len_r hc
  by_cases h1 : r.length = 1
  · obtain ⟨x, rfl⟩ := List.length_eq_one_iff.mp h1
    cases x with
    | st s =>
      have hs' := dueS_of (l := l) (s := s) (ho (.st s) (by simp)) (by rw [← hw]; simp [itWords, It.words])
      rw [hs'] at hs; cases hs
    | wd x =>
      have h0 : wIx (.loc (st.length + j)) (.int 0) (st ++ g) = .ok (.str x) (st ++ g) := o_ixL (lstOf_l hc) rfl
      have hsd := said_ok (x := .str x) (gdIt _ ho _ (by simp [It.w])) (st ++ g)
      change _ = R.ok (W.bl false) (st ++ g) at hsd
      apply sat_seq_t
      · apply k_bor_f
        · (walk_at "evs")
        · (walk_at "evs")
      apply sat_seq_raise
      exact ⟨_, _, rfl, _, rfl⟩
  · have n1 : (!(((r.map It.w).length : Int) == 1)) = true := by rw [Bool.not_eq_true', beq_eq_false_iff_ne, List.length_map]; omega
    apply sat_seq_t
    · apply k_bor_t
      (walk_at "evs")
    apply sat_seq_raise
    exact ⟨_, _, rfl, _, rfl⟩
def great : W := .tup [.str [114, 101, 102, 117, 115, 101, 100], .bl true, .bl false, .bl true, .bl false]
def noSt : W := .tup [.str [114, 101, 102, 117, 115, 101, 100], .bl true, .bl true, .bl false, .bl false]
def due (l : List Nat) : W := if 300 < l.length then great else match dueS l with
  | some s => if 30 < s.parts then great else s.w
  | none => noSt
theorem rdst_great {l : List Nat} (hl : 300 < l.length) (hL : l.length ≤ 100000) (st : List Cell) : f_read_statement [.str l] st = .ex "TooGreat" st := by
  refine run_exc (N := 2) (ws := [.str l]) (body := g_read_statement) ?_
  have d1 : decide ((300 : Int) < (l.length : Nat)) = true := decide_eq_true (by omega)
  simp only [g_read_statement, c_MOST_SIGNS, c_MOST_PARTS]
  apply sat_seq_t
  · (repeat' (first | with_reducible exact o_lenS (Nat.le_trans hL (by decide)) | walk_at "ev1"))
  apply sat_seq_raise
  exact ⟨_, _, rfl, [], by simp⟩
section
variable {l : List Nat} (hl : l.length ≤ 300)
include hl
theorem rdst_none (hs : dueS l = none) (st : List Cell) : f_read_statement [.str l] st = .ex "NoStatement" st := by
  refine run_exc (N := 2) (ws := [.str l]) (body := g_read_statement) ?_
  have d1 : decide ((300 : Int) < (l.length : Nat)) = false := decide_eq_false (by omega)
  have hL2 : l.length + 2 ≤ LIM := by show _ ≤ 1000000; omega
  have hc : (st ++ [Cell.lst ((splitN 32 l).map W.str)])[st.length]? = some (.lst ((splitN 32 l).map W.str)) := by rw [cell_at0]; rfl
  have hw := words_none hl hs hc
  simp only [g_read_statement, c_MOST_SIGNS, c_MOST_PARTS]
  apply sat_seq_f
  · (repeat' (first | with_reducible exact o_lenS (l := l) (by show _ ≤ 1000000; omega) | walk_at "ev1"))
  apply sat_next
  apply sat_seq_ex
  · apply k_set_ex
    apply k_def_ex
    · (repeat' (first | with_reducible exact o_split hL2 | walk_at "ev1"))
    · exact hw
    · rfl
  · exact ⟨_, _, rfl, _, rfl⟩
theorem rdst_some {s : Stm} (hs : dueS l = some s) (st : List Cell) : f_read_statement [.str l] st = if 30 < s.parts then .ex "TooGreat" st else .ok s.w st := by
  obtain ⟨ho, hwd⟩ := dueS_some hs
  have hp := parts_le hl ho hwd
  have d1 : decide ((300 : Int) < (l.length : Nat)) = false := decide_eq_false (by omega)
  have hL2 : l.length + 2 ≤ LIM := by show _ ≤ 1000000; omega
  have hc : (st ++ [Cell.lst ((splitN 32 l).map W.str)])[st.length]? = some (.lst ((splitN 32 l).map W.str)) := by rw [cell_at0]; rfl
  have hw := words_some hl hs hc
  have hpm := parts_ok s ho (by omega) (st ++ [Cell.lst ((splitN 32 l).map W.str)])
  split
  · rename_i h30
    have d2 : decide ((30 : Int) < (s.parts : Nat)) = true := decide_eq_true (by omega)
    refine run_exc (N := 2) (ws := [.str l]) (body := g_read_statement) ?_
    simp only [g_read_statement, c_MOST_SIGNS, c_MOST_PARTS]
    apply sat_seq_f
    · (repeat' (first | with_reducible exact o_lenS (l := l) (by show _ ≤ 1000000; omega) | walk_at "ev1"))
    apply sat_next
    apply sat_seq
    · (repeat' (first | with_reducible exact o_split hL2 | walk_at "ev1"))
    apply sat_seq_t
    · (walk_at "evs")
    apply sat_seq_raise
    exact ⟨_, _, rfl, _, rfl⟩
  · rename_i h30
    have d2 : decide ((30 : Int) < (s.parts : Nat)) = false := decide_eq_false (by omega)
    refine run_is (N := 2) (ws := [.str l]) (body := g_read_statement) ?_ (by simp [undWs, Stm.und])
    simp only [g_read_statement, c_MOST_SIGNS, c_MOST_PARTS]
    apply sat_seq_f
    · (repeat' (first | with_reducible exact o_lenS (l := l) (by show _ ≤ 1000000; omega) | walk_at "ev1"))
    apply sat_next
    apply sat_seq
    · (repeat' (first | with_reducible exact o_split hL2 | walk_at "ev1"))
    apply sat_seq_f
    · (walk_at "evs")
    apply sat_next
    apply sat_ret
    · (walk_at "evs")
    · exact ⟨_, _, rfl, rfl, _, rfl⟩
end
theorem read_ex {l : List Nat} {c : Str} {a b : Bool} {st : List Cell} (h : f_read_statement [.str l] st = .ex c st) (hc : c ∈ cs_TrunkError) (h1 : ti_ValueError c = some true) (h2 : ti_NoStatement c = some a) (h3 : ti_TooGreat c = some b) (h4 : ti_t0 c = some false) :
    f__law_read [.str l] st = .ok (.tup [.str [114, 101, 102, 117, 115, 101, 100], .bl true, .bl a, .bl b, .bl false]) st := by
  refine run_is (N := 3) (ws := [.str l]) (body := g__law_read) ?_ (by simp [undWs, W.und])
  have he : (st ++ [Cell.exc c])[st.length]? = some (.exc c) := by rw [cell_at0]; rfl
  have iE : ∀ {f : Str → Option Bool} {b : Bool} {ρ : EnvW}, ρ[2]? = some (some (.loc st.length)) → f c = some b → eIsE f (eVar 2) ρ (st ++ [Cell.exc c]) = .ok (.bl b) (st ++ [Cell.exc c]) := fun h hf => k_isE (k_var h) he hf
  apply sat_seq
  · (walk_at "evs")
  apply sat_seq
  · apply k_try_ex
    · apply k_set_ex
      apply k_def_ex
      · (walk_at "evs")
      · exact h
      · rfl
    · exact hc
    · apply k_set
      exact k_tup (k_cons k_C (k_cons (iE rfl h1) (k_cons (iE rfl h2) (k_cons (iE rfl h3) (k_cons (iE rfl h4) k_nil))))) (Nat.le_of_ble_eq_true rfl)
  apply sat_ret
  · (walk_at "evs")
  · exact ⟨_, _, rfl, rfl, _, rfl⟩
theorem read_some {l : List Nat} {w : W} {st : List Cell} (h : f_read_statement [.str l] st = .ok w st) (hu : undWs st.length [w] = true) : f__law_read [.str l] st = .ok w st := by
  refine run_is (N := 3) (ws := [.str l]) (body := g__law_read) ?_ hu
  apply sat_seq
  · (walk_at "evs")
  apply sat_seq
  · apply k_try_ok
    (walk_at "evs")
  apply sat_ret
  · (walk_at "evs")
  · exact ⟨_, _, rfl, rfl, [], by simp⟩
theorem read_due {l : List Nat} (hL : l.length ≤ 100000) (st : List Cell) : f__law_read [.str l] st = .ok (due l) st := by
  unfold due
  split
  · rename_i h
    exact read_ex (rdst_great h hL st) (by decide) rfl rfl rfl rfl
  · rename_i h
    have hl : l.length ≤ 300 := by omega
    split
    · rename_i s e
      have := rdst_some hl e st
      split
      · rename_i h30
        rw [if_pos h30] at this
        exact read_ex this (by decide) rfl rfl rfl rfl
      · rename_i h30
        rw [if_neg h30] at this
        exact read_some this (by simp [undWs, Stm.und])
    · rename_i e
      exact read_ex (rdst_none hl e st) (by decide) rfl rfl rfl rfl
end P
set_option Elab.async false
set_option linter.all false
set_option maxRecDepth 100000
set_option maxHeartbeats 4000000
namespace P
open PySem L2
section
variable {F : List W → List Cell → R W} {X : W} {st : List Cell}
noncomputable abbrev lpB (F : List W → List Cell → R W) : FS := (xIf (asB (eIsT "tuple" (eVar 2))) (xSet 1 (e2 wAdd (eVar 1) (eDef 1 F (aCons (eVar 2) aNil)))) xNext)
theorem lp_s (m : Int) (l : List Nat) : lpB F [some X, some (.int m), some (.str l)] st = .nx [some X, some (.int m), some (.str l)] st := by
  apply k_if_f
  · (walk_at "evs")
  · (walk_at "evs")
theorem lp_t {s : Stm} (m : Int) {p : Int} (h : F [s.w] st = .ok (.int p) st) : lpB F [some X, some (.int m), some s.w] st = .nx [some X, some (.int (m + p)), some s.w] st := by
  have ht : s.w.ty = some "tuple" := by cases s <;> rfl
  apply k_if_t
  · (walk_at "evs")
  · exact k_set (k_2 (k_var rfl) (k_def (k_cons (k_var rfl) k_nil) h rfl) o_addI)
theorem for_all (f : FG) {body : FS} {w : W} {ws : List W} {ρ ρ' ρ2 : EnvW} {r : RS} (h1 : f w ρ = some ρ') (h2 : body ρ' st = .nx ρ2 st) (h3 : forW f body none ws ρ2 st = r) : forW f body none (w :: ws) ρ st = r := by
  rw [for_nx h1 h2]; exact h3
end
theorem lparts_ok : ∀ (s : Stm) (k : Nat), s.parts ≤ k → ∀ st, f__law_parts k [s.w] st = .ok (.int s.parts) st
  | .one a, k + 1, hk, st => by
    refine run_self' (N := 3) (ws := [(Stm.one a).w]) (body := g__law_parts (f__law_parts k)) ?_
    apply sat_seq
    · (walk_at "evs")
    apply sat_seq
    · refine (xFor_nx (st' := st) (k := ([W.str [a]], none)) ?_).trans (for_all _ rfl (lp_s _ _) for_nil)
      apply i_any_t
      apply k_sl
      · (walk_at "evs")
      · (walk_at "evs")
      · (walk_at "evs")
      · exact rfl
    apply sat_ret
    · (walk_at "evs")
    · exact ⟨_, _, rfl, rfl, rfl⟩
  | .two q a b, k + 1, hk, st => by
    refine run_self' (N := 3) (ws := [(Stm.two q a b).w]) (body := g__law_parts (f__law_parts k)) ?_
    apply sat_seq
    · (walk_at "evs")
    apply sat_seq
    · refine (xFor_nx (st' := st) (k := ([W.str [a], W.str [b]], none)) ?_).trans (for_all _ rfl (lp_s _ _) (for_all _ rfl (lp_s _ _) for_nil))
      apply i_any_t
      apply k_sl
      · (walk_at "evs")
      · (walk_at "evs")
      · (walk_at "evs")
      · exact rfl
    apply sat_ret
    · (walk_at "evs")
    · exact ⟨_, _, rfl, rfl, rfl⟩
  | .neg s, k + 1, hk, st => by
    simp only [Stm.parts] at hk
    have ih := lparts_ok s k (by omega) st
    refine run_self' (N := 3) (ws := [(Stm.neg s).w]) (body := g__law_parts (f__law_parts k)) ?_
    apply sat_seq
    · (walk_at "evs")
    apply sat_seq
    · refine (xFor_nx (st' := st) (k := ([s.w], none)) ?_).trans (for_all _ rfl (lp_t _ ih) for_nil)
      apply i_any_t
      apply k_sl
      · (walk_at "evs")
      · (walk_at "evs")
      · (walk_at "evs")
      · exact rfl
    apply sat_ret
    · (walk_at "evs")
    · refine ⟨_, _, rfl, ?_, rfl⟩
      simp only [Stm.parts]; congr 1; omega
  | .bnd q a s, k + 1, hk, st => by
    simp only [Stm.parts] at hk
    have ih := lparts_ok s k (by omega) st
    refine run_self' (N := 3) (ws := [(Stm.bnd q a s).w]) (body := g__law_parts (f__law_parts k)) ?_
    apply sat_seq
    · (walk_at "evs")
    apply sat_seq
    · refine (xFor_nx (st' := st) (k := ([W.str [a], s.w], none)) ?_).trans (for_all _ rfl (lp_s _ _) (for_all _ rfl (lp_t _ ih) for_nil))
      apply i_any_t
      apply k_sl
      · (walk_at "evs")
      · (walk_at "evs")
      · (walk_at "evs")
      · exact rfl
    apply sat_ret
    · (walk_at "evs")
    · refine ⟨_, _, rfl, ?_, rfl⟩
      simp only [Stm.parts]; congr 1; omega
  | .jn q s t, k + 1, hk, st => by
    simp only [Stm.parts] at hk
    have ih := lparts_ok s k (by omega) st
    have ih2 := lparts_ok t k (by omega) st
    refine run_self' (N := 3) (ws := [(Stm.jn q s t).w]) (body := g__law_parts (f__law_parts k)) ?_
    apply sat_seq
    · (walk_at "evs")
    apply sat_seq
    · refine (xFor_nx (st' := st) (k := ([s.w, t.w], none)) ?_).trans (for_all _ rfl (lp_t _ ih) (for_all _ rfl (lp_t _ ih2) for_nil))
      apply i_any_t
      apply k_sl
      · (walk_at "evs")
      · (walk_at "evs")
      · (walk_at "evs")
      · exact rfl
    apply sat_ret
    · (walk_at "evs")
    · refine ⟨_, _, rfl, ?_, rfl⟩
      simp only [Stm.parts]; congr 1; omega
  | .one a, 0, hk, _ => by simp [Stm.parts] at hk
  | .two k a b, 0, hk, _ => by simp [Stm.parts] at hk
  | .neg s, 0, hk, _ => by simp [Stm.parts] at hk
  | .bnd k a s, 0, hk, _ => by simp [Stm.parts] at hk
  | .jn k s t, 0, hk, _ => by simp [Stm.parts] at hk
theorem due_ok {l : List Nat} (hL : l.length ≤ 100000) (st : List Cell) : f__law_due [.str l] st = .ok (due l) st := by
  have hL2 : l.length + 2 ≤ LIM := by show _ ≤ 1000000; omega
  have hL1 : l.length ≤ LIM := by show _ ≤ 1000000; omega
  have hu : undWs st.length [due l] = true := by
    unfold due
    split
    · rfl
    · split
      · split
        · rfl
        · simp [undWs, Stm.und]
      · rfl
  refine run_is (N := 4) (ws := [.str l]) (body := g__law_due) ?_ hu
  apply sat_seq
  · (walk_at "evs")
  unfold due
  by_cases h3 : 300 < l.length
  · have d1 : decide ((300 : Int) < (l.length : Nat)) = true := decide_eq_true (by omega)
    apply sat_seq_t
    · (repeat' (first | with_reducible exact o_lenS hL1 | walk_at "ev1"))
    apply sat_seq_ret
    · (walk_at "evs")
    · rw [if_pos h3]
      exact ⟨_, _, rfl, rfl, [], by simp⟩
  have d1 : decide ((300 : Int) < (l.length : Nat)) = false := decide_eq_false (by omega)
  have hc : (st ++ [Cell.lst ((splitN 32 l).map W.str)])[st.length]? = some (.lst ((splitN 32 l).map W.str)) := by rw [cell_at0]; rfl
  have hr := rem_split l
  have hp := parsed_ok hc (fun w hw => by have := rem_mem hw; omega) ((splitN 32 l).length + 1) 302 [] (splitN 32 l) rfl (by omega) (by omega)
  change f__law_parsed 302 [.loc st.length, .int 0] _ = _ at hp
  have hlen := o_lenL (lstOf_l hc)
  rw [List.length_map] at hlen
  have hds : dueS l = (match pa ((splitN 32 l).length + 1) (splitN 32 l) with | some (s, []) => some s | _ => none) := rfl
  apply sat_seq_f
  · (repeat' (first | with_reducible exact o_lenS hL1 | walk_at "ev1"))
  apply sat_next
  apply sat_seq
  · (repeat' (first | with_reducible exact o_split hL2 | walk_at "ev1"))
  rw [if_neg h3]
  cases e : pa ((splitN 32 l).length + 1) (splitN 32 l) with
  | none =>
    rw [e] at hp hds
    change _ = R.ok W.non _ at hp
    rw [hds]
    apply sat_seq
    · (walk_at "evs")
    apply sat_seq_t
    · apply k_bor_t
      (walk_at "evs")
    apply sat_seq_ret
    · (walk_at "evs")
    · exact ⟨_, _, rfl, rfl, _, rfl⟩
  | some v =>
    obtain ⟨s, p⟩ := v
    have hs := pa_sound _ _ _ _ e
    rw [e] at hp hds
    change _ = R.ok (W.tup [s.w, .int (((splitN 32 l).length - p.length : Nat) : Int)]) _ at hp
    cases p with
    | cons x p =>
      change dueS l = none at hds
      rw [hds]
      have hll := congrArg List.length hs.2
      rw [List.length_append] at hll
      have n1 : (!((((splitN 32 l).length - (x :: p).length : Nat) : Int) == ((splitN 32 l).length : Int))) = true := by rw [Bool.not_eq_true', beq_eq_false_iff_ne]; simp at hll ⊢; omega
      apply sat_seq
      · (walk_at "evs")
      apply sat_seq_t
      · apply k_bor_f
        · (walk_at "evs")
        · (walk_at "evs")
      apply sat_seq_ret
      · (walk_at "evs")
      · exact ⟨_, _, rfl, rfl, _, rfl⟩
    | nil =>
      change dueS l = some s at hds
      rw [hds]
      have hpl := parts_le (l := l) (by omega) hs.1 (by simpa using hs.2)
      have hlp := lparts_ok s 90 (by omega) (st ++ [Cell.lst ((splitN 32 l).map W.str)])
      change _ = R.ok (W.tup [s.w, .int ((splitN 32 l).length : Int)]) _ at hp
      have n1 : (!(((splitN 32 l).length : Int) == ((splitN 32 l).length : Int))) = false := by simp
      apply sat_seq
      · (walk_at "evs")
      apply sat_seq_f
      · apply k_bor_f
        · (walk_at "evs")
        · (walk_at "evs")
      apply sat_next
      by_cases h30 : 30 < s.parts
      · have d2 : decide ((30 : Int) < (s.parts : Nat)) = true := decide_eq_true (by omega)
        apply sat_seq_t
        · (walk_at "evs")
        apply sat_seq_ret
        · (walk_at "evs")
        · exact ⟨_, _, rfl, by simp only [if_pos h30]; rfl, _, rfl⟩
      · have d2 : decide ((30 : Int) < (s.parts : Nat)) = false := decide_eq_false (by omega)
        apply sat_seq_f
        · (walk_at "evs")
        apply sat_next
        apply sat_ret
        · (walk_at "evs")
        · exact ⟨_, _, rfl, by simp only [if_neg h30], _, rfl⟩
theorem same_bool (b : Bool) (k : Nat) (st : List Cell) : f__law_same (k + 1) [.bl b, .bl b] st = .ok (.bl true) st := by
  have hb : wEq (.bl b) (.bl b) st = .ok (.bl true) st := o_eqB (by simp)
  refine run_is (N := 3) (ws := [.bl b, .bl b]) (body := g__law_same (f__law_same k)) ?_ rfl
  apply sat_seq_f
  · (walk_at "evs")
  apply sat_next
  apply sat_seq_f
  · (walk_at "evs")
  apply sat_next
  apply sat_seq_t
  · (walk_at "evs")
  apply sat_seq_ret
  · apply k_and_t
    · (walk_at "evs")
    · (walk_at "evs")
  · exact ⟨_, _, rfl, rfl, [], by simp⟩
theorem same_due {l : List Nat} (st : List Cell) : f__law_same 90 [due l, due l] st = .ok (.bl true) st := by
  have g : f__law_same 90 [great, great] st = .ok (.bl true) st := same_tup (k := 89) (by simp) fun w hw => by
    simp at hw
    repeat' (rcases hw with rfl | hw)
    all_goals first | exact same_str _ _ _ | exact same_bool _ _ _ | (subst hw; exact same_bool _ _ _)
  have n : f__law_same 90 [noSt, noSt] st = .ok (.bl true) st := same_tup (k := 89) (by simp) fun w hw => by
    simp at hw
    repeat' (rcases hw with rfl | hw)
    all_goals first | exact same_str _ _ _ | exact same_bool _ _ _ | (subst hw; exact same_bool _ _ _)
  unfold due
  split
  · exact g
  · rename_i h3
    split
    · rename_i s e
      obtain ⟨ho, hw⟩ := dueS_some e
      split
      · exact g
      · exact same_stm s 90 (by omega) st
    · exact n
end P
set_option Elab.async false
set_option linter.all false
set_option maxRecDepth 100000
set_option maxHeartbeats 4000000
namespace P
open PySem L2
abbrev MN1 : List (List Nat) := [[40], [41], [97, 110, 100], [111, 114], [110, 111, 116], [115, 111, 109, 101], [97, 108, 108], [111, 110, 101], [105, 110], [108, 101, 102, 116], [114, 105, 103, 104, 116], [98, 101, 108, 111, 119], [97], [90], [97, 98]]
abbrev MN2 : List (List Nat) := [[], [65, 66], [73, 78], [78, 111, 116], [49], [91], [64], [96], [123], [105, 115, 105, 110], [105, 115], [45], [65], [122], [120], [95]]
theorem rem_take (ls : List (List Nat)) (q : Nat) : rem (ls.take q) ≤ rem ls := by
  have := rem_app (ls.take q) (ls.drop q)
  rw [List.take_append_drop] at this; omega
theorem rem_cut (ls : List (List Nat)) (q : Nat) : rem (ls.take q) + rem (ls.drop q) = rem ls := by
  rw [← rem_app, List.take_append_drop]
theorem rem_drop1 (ls : List (List Nat)) (q : Nat) : rem (ls.drop (q + 1)) ≤ rem (ls.drop q) := by
  have h : ls.drop (q + 1) = (ls.drop q).drop 1 := by rw [List.drop_drop]
  rw [h]
  cases ls.drop q with
  | nil => simp
  | cons x r => simp [rem]
theorem rem_set {ls : List (List Nat)} {q : Nat} (x : List Nat) : rem (ls.set q x) ≤ rem ls + x.length + 1 := by
  induction ls generalizing q with
  | nil => simp [rem]
  | cons y r ih =>
    cases q with
    | zero => simp [rem]; omega
    | succ q => have := ih (q := q); simp only [List.set_cons_succ, rem_cons] at this ⊢; omega
theorem rem_get {ls : List (List Nat)} {q : Nat} {x : List Nat} (h : ls[q]? = some x) : x.length + 1 ≤ rem ls := rem_mem (List.mem_of_getElem? h)
theorem ix_nat {n q : Nat} (h : q < n) : ixN n (q : Int) = some q := by
  unfold ixN
  rw [if_pos (by omega), if_pos (by omega)]; simp
theorem cutW_len {α : Type} (l : List α) (a b : Option Int) : (cutW l a b).length ≤ l.length := by
  unfold cutW
  simp only [List.length_take, List.length_drop]; omega
def SpI (st : List Cell) (l : List Nat) (nd : Nat) (B : Nat) : EnvW → List Cell → Prop := fun ρ st' => ∃ (j : Nat) (g : List Cell) (ls : List (List Nat)) (o2 o4 o5 o6 o7 o8 : Option W), ρ = [some (.str l), some (.loc nd), o2, some (.loc (st.length + j)), o4, o5, o6, o7, o8] ∧ st' = st ++ g ∧ g[j]? = some (.lst (ls.map W.str)) ∧ rem ls ≤ B
theorem spoilt_ok {st : List Cell} {nd : Nat} {ds : List Int} (hd : st[nd]? = some (.lst (ds.map W.int))) (hl : ds.length = 6) (l : List Nat) (hL : l.length ≤ 100000) : ∃ l' : List Nat, l'.length ≤ 3 * l.length + 30 ∧ f__law_spoilt [.str l, .loc nd] st = .ok (.str l') st := by
  suffices hh : Sat (rtP fun w st' => (∃ x, st' = st ++ x) ∧ undWs st.length [w] = true ∧ ∃ l' : List Nat, w = .str l' ∧ l'.length ≤ 3 * l.length + 30) (g__law_spoilt ([W.str l, .loc nd].map some ++ List.replicate (9 - 2) none) st) by
    obtain ⟨w, ⟨l', rfl, h1⟩, e⟩ := run_val hh
    exact ⟨l', h1, e⟩
  obtain ⟨d0, d1, d2, d3, d4, d5, rfl⟩ : ∃ d0 d1 d2 d3 d4 d5, ds = [d0, d1, d2, d3, d4, d5] := by
    match ds, hl with
    | [d0, d1, d2, d3, d4, d5], _ => exact ⟨_, _, _, _, _, _, rfl⟩
  have hrem := rem_split l
  have hwl := rem_len (splitN 32 l)
  have hw0 : 0 < (splitN 32 l).length := List.length_pos_iff.mpr (splitN_ne 32 l)
  generalize hwd : splitN 32 l = wd at hrem hwl hw0
  have c1 : (st ++ [Cell.lst (MN1.map W.str)] ++ [Cell.lst (MN2.map W.str)])[st.length]? = some (.lst (MN1.map W.str)) := cell_old (by rw [cell_at0]; rfl)
  have c2 : (st ++ [Cell.lst (MN1.map W.str)] ++ [Cell.lst (MN2.map W.str)])[(st ++ [Cell.lst (MN1.map W.str)]).length]? = some (.lst (MN2.map W.str)) := by rw [cell_at0]; rfl
  have hadd := o_addL c1 c2 (by decide)
  apply sat_seq
  · (walk_at "evs")
  apply sat_seq
  · (walk_at "evs")
  have hs2 : st ++ [Cell.lst (MN1.map W.str)] ++ [Cell.lst (MN2.map W.str)] ++ [Cell.lst (MN1.map W.str ++ MN2.map W.str)] = st ++ [Cell.lst (MN1.map W.str), Cell.lst (MN2.map W.str), Cell.lst ((MN1 ++ MN2).map W.str)] := by simp
  have hn2 : (st ++ [Cell.lst (MN1.map W.str)] ++ [Cell.lst (MN2.map W.str)]).length = st.length + 2 := by simp
  rw [hs2, hn2]
  have hsp := o_split (st := st ++ [Cell.lst (MN1.map W.str), Cell.lst (MN2.map W.str), Cell.lst ((MN1 ++ MN2).map W.str)]) (l := l) (c := 32) (by show _ ≤ 1000000; omega)
  have hs3 : st ++ [Cell.lst (MN1.map W.str), Cell.lst (MN2.map W.str), Cell.lst ((MN1 ++ MN2).map W.str)] ++ [Cell.lst (wd.map W.str)] = st ++ [Cell.lst (MN1.map W.str), Cell.lst (MN2.map W.str), Cell.lst ((MN1 ++ MN2).map W.str), Cell.lst (wd.map W.str)] := by simp
  have hn3 : (st ++ [Cell.lst (MN1.map W.str), Cell.lst (MN2.map W.str), Cell.lst ((MN1 ++ MN2).map W.str)]).length = st.length + 3 := by simp
  rw [hwd, hs3, hn3] at hsp
  apply sat_seq
  · (walk_at "evs")
  obtain ⟨S, hS⟩ : ∃ S, S = st ++ [Cell.lst (MN1.map W.str), Cell.lst (MN2.map W.str), Cell.lst ((MN1 ++ MN2).map W.str), Cell.lst (wd.map W.str)] := ⟨_, rfl⟩
  rw [← hS]
  have cd : S[nd]? = some (.lst ([d0, d1, d2, d3, d4, d5].map W.int)) := by rw [hS]; exact cell_old hd
  have cm : S[st.length + 2]? = some (.lst ((MN1 ++ MN2).map W.str)) := by rw [hS, cell_at]; rfl
  have cw : S[st.length + 3]? = some (.lst (wd.map W.str)) := by rw [hS, cell_at]; rfl
  have i0 : wIx (.loc nd) (.int 0) S = .ok (.int d0) S := o_ixL (lstOf_l cd) rfl
  have i1 : wIx (.loc nd) (.int 1) S = .ok (.int d1) S := o_ixL (lstOf_l cd) rfl
  have i2 : wIx (.loc nd) (.int 2) S = .ok (.int d2) S := o_ixL (lstOf_l cd) rfl
  have i3 : wIx (.loc nd) (.int 3) S = .ok (.int d3) S := o_ixL (lstOf_l cd) rfl
  have i4 : wIx (.loc nd) (.int 4) S = .ok (.int d4) S := o_ixL (lstOf_l cd) rfl
  have i5 : wIx (.loc nd) (.int 5) S = .ok (.int d5) S := o_ixL (lstOf_l cd) rfl
  have hlw := o_lenL (lstOf_l cw)
  rw [List.length_map] at hlw
  have hlm := o_lenL (lstOf_l cm)
  rw [List.length_map] at hlm
  obtain ⟨q4, h4, e4⟩ := mod_nat (q := d0) (n := 10) (by omega)
  obtain ⟨q5, h5, e5⟩ := mod_nat (q := 64 * d1 + d2) (n := wd.length) hw0
  obtain ⟨q6, h6, e6⟩ := mod_nat (q := 64 * d3 + d4) (n := wd.length) hw0
  obtain ⟨q7, h7, e7⟩ := mod_nat (q := d5) (n := (MN1 ++ MN2).length) (by decide)
  have h7' : (MN1 ++ MN2)[q7]? = some (MN1 ++ MN2)[q7] := by simp [h7]
  have hx5 : (MN1 ++ MN2)[q7].length ≤ 5 := by
    have : ∀ y ∈ MN1 ++ MN2, y.length ≤ 5 := by decide
    exact this _ (List.getElem_mem _)
  generalize (MN1 ++ MN2)[q7] = x at h7' hx5
  have i7 : wIx (.loc (st.length + 2)) (.int (d5 % (((MN1 ++ MN2).length : Nat) : Int))) S = .ok (.str x) S := by rw [e7]; exact o_ixL (lstOf_l cm) (at_nat (by simp only [List.getElem?_map, h7']; rfl))
  have p0 : (0 : Int) < (wd.length : Int) := by omega
  have e4' : d0 % 10 = (q4 : Int) := e4
  apply sat_seq
  · (walk_at "evs")
  rw [e4']
  apply sat_seq
  · (walk_at "evs")
    all_goals first | exact .inl (by decide) | exact p0
  rw [e5]
  apply sat_seq
  · (walk_at "evs")
    all_goals first | exact .inl (by decide) | exact p0
  rw [e6]
  apply sat_seq
  · (repeat' (first | with_reducible exact i7 | walk_at "ev1"))
  have x5 : wd[q5]? = some wd[q5] := by simp [h5]
  have x6 : wd[q6]? = some wd[q6] := by simp [h6]
  have r5 := rem_get x5
  have r6 := rem_get x6
  generalize wd[q5] = w5 at x5 r5
  generalize wd[q6] = w6 at x6 r6
  have j5 : wIx (.loc (st.length + 3)) (.int q5) S = .ok (.str w5) S := o_ixL (lstOf_l cw) (at_nat (by simp [x5]))
  have j6 : wIx (.loc (st.length + 3)) (.int q6) S = .ok (.str w6) S := o_ixL (lstOf_l cw) (at_nat (by simp [x6]))
  have hwm : (wd.map W.str).length = wd.length := List.length_map _
  have cset : ∀ c, S.set (st.length + 3) c = st ++ [Cell.lst (MN1.map W.str), Cell.lst (MN2.map W.str), Cell.lst ((MN1 ++ MN2).map W.str), c] := fun c => by rw [hS, cell_set]; rfl
  have fin : ∀ (ls : List (List Nat)) (o2 o4 o5 o6 o7 o8 : Option W), rem ls ≤ 3 * rem wd + 20 → nxP (SpI st l nd (3 * rem wd + 20)) (.nx [some (.str l), some (.loc nd), o2, some (.loc (st.length + 3)), o4, o5, o6, o7, o8] (st ++ [Cell.lst (MN1.map W.str), Cell.lst (MN2.map W.str), Cell.lst ((MN1 ++ MN2).map W.str), Cell.lst (ls.map W.str)])) :=
    fun ls o2 o4 o5 o6 o7 o8 h => ⟨_, _, rfl, 3, _, ls, _, _, _, _, _, _, rfl, rfl, rfl, h⟩
  have put : ∀ (q : Nat) (v : List Nat), q < wd.length → wSetL (.loc (st.length + 3)) (.int q) (.str v) S = some (st ++ [Cell.lst (MN1.map W.str), Cell.lst (MN2.map W.str), Cell.lst ((MN1 ++ MN2).map W.str), Cell.lst ((wd.set q v).map W.str)]) := fun q v hq => by
    rw [o_putL cw (j := q) (by rw [hwm]; exact ix_nat hq), cset, ← List.map_set]
  have s5 := @rem_set wd q5
  refine sat_cut (SpI st l nd (3 * rem wd + 20)) ?_ ?_
  · have hq5 : q5 < 1000000 := by omega
    have cwl : (wd.map W.str).length < LIM := by rw [hwm]; show _ < 1000000; omega
    have isl := k_isLst cw
    have l5 : w5.length ≤ LIM := by show _ ≤ 1000000; omega
    rcases (show q4 = 0 ∨ q4 = 1 ∨ q4 = 2 ∨ q4 = 3 ∨ q4 = 4 ∨ q4 = 5 ∨ q4 = 6 ∨ q4 = 7 ∨ q4 = 8 ∨ q4 = 9 by omega) with rfl | rfl | rfl | rfl | rfl | rfl | rfl | rfl | rfl | rfl
    · have hp := o_popI (y := .str w5) cw (k := q5) (by simp [x5]) hq5
      rw [cset, ← List.map_take, ← List.map_drop, ← List.map_append] at hp
      repeat (first | (apply sat_t; (focus ((walk_at "evs"); done))) | (apply sat_f; (focus ((walk_at "evs"); done))))
      apply sat_eq
      · (walk_at "evs")
      · exact fin _ _ _ _ _ _ _ (by rw [rem_app]; have := rem_cut wd q5; have := rem_drop1 wd q5; omega)
    · have hp := o_insert (y := .str w5) cw (k := q5) (by rw [hwm]; omega) cwl hq5
      rw [cset, show (wd.map W.str).take q5 ++ W.str w5 :: (wd.map W.str).drop q5 = (wd.take q5 ++ w5 :: wd.drop q5).map W.str by simp] at hp
      repeat (first | (apply sat_t; (focus ((walk_at "evs"); done))) | (apply sat_f; (focus ((walk_at "evs"); done))))
      apply sat_eq
      · (walk_at "evs")
      · exact fin _ _ _ _ _ _ _ (by rw [rem_app, rem_cons]; have := rem_cut wd q5; omega)
    · have hp := put q5 w6 h5
      have cw' : (st ++ [Cell.lst (MN1.map W.str), Cell.lst (MN2.map W.str), Cell.lst ((MN1 ++ MN2).map W.str), Cell.lst ((wd.set q5 w6).map W.str)])[st.length + 3]? = some (.lst ((wd.set q5 w6).map W.str)) := by rw [cell_at]; rfl
      have hp2 := o_putL (v := .str w5) (q := q6) cw' (j := q6) (by rw [List.length_map, List.length_set]; exact ix_nat h6)
      rw [cell_set, ← List.map_set] at hp2
      repeat (first | (apply sat_t; (focus ((walk_at "evs"); done))) | (apply sat_f; (focus ((walk_at "evs"); done))))
      apply sat_seq
      · (walk_at "evs")
      apply sat_seq
      · (walk_at "evs")
      apply sat_eq
      · (walk_at "evs")
      · exact fin _ _ _ _ _ _ _ (by have a := s5 w6; have b := @rem_set (wd.set q5 w6) q6 w5; omega)
    · have hp := put q5 x h5
      repeat (first | (apply sat_t; (focus ((walk_at "evs"); done))) | (apply sat_f; (focus ((walk_at "evs"); done))))
      apply sat_eq
      · (walk_at "evs")
      · exact fin _ _ _ _ _ _ _ (by have a := s5 x; omega)
    · have hp := o_insert (y := .str x) cw (k := q5) (by rw [hwm]; omega) cwl hq5
      rw [cset, show (wd.map W.str).take q5 ++ W.str x :: (wd.map W.str).drop q5 = (wd.take q5 ++ x :: wd.drop q5).map W.str by simp] at hp
      repeat (first | (apply sat_t; (focus ((walk_at "evs"); done))) | (apply sat_f; (focus ((walk_at "evs"); done))))
      apply sat_eq
      · (walk_at "evs")
      · exact fin _ _ _ _ _ _ _ (by rw [rem_app, rem_cons]; have := rem_cut wd q5; omega)
    · have hp := put q5 (w5 ++ [32]) h5
      repeat (first | (apply sat_t; (focus ((walk_at "evs"); done))) | (apply sat_f; (focus ((walk_at "evs"); done))))
      apply sat_eq
      · (walk_at "evs")
        (walk_at "len")
      · exact fin _ _ _ _ _ _ _ (by have a := s5 (w5 ++ [32]); simp only [List.length_append, List.length_cons, List.length_nil] at a; omega)
    · have hp := put q5 ([32] ++ w5) h5
      repeat (first | (apply sat_t; (focus ((walk_at "evs"); done))) | (apply sat_f; (focus ((walk_at "evs"); done))))
      apply sat_eq
      · (walk_at "evs")
        (walk_at "len")
      · exact fin _ _ _ _ _ _ _ (by have a := s5 ([32] ++ w5); simp only [List.length_append, List.length_cons, List.length_nil] at a; omega)
    · have hp := o_slL (l := none) (h := some ((q5 : Int) + 1)) (lstOf_l cw)
      rw [show ((q5 : Int) + 1) = ((q5 + 1 : Nat) : Int) from rfl, cut_pre (by rw [hwm]; omega), ← List.map_take] at hp
      rw [show ((q5 + 1 : Nat) : Int) = ((q5 : Int) + 1) from rfl] at hp
      have hSl : S.length = st.length + 4 := by rw [hS]; simp
      repeat (first | (apply sat_t; (focus ((walk_at "evs"); done))) | (apply sat_f; (focus ((walk_at "evs"); done))))
      apply sat_eq
      · (walk_at "evs")
      · rw [hSl, hS]
        refine ⟨_, _, rfl, 4, _, wd.take (q5 + 1), _, _, _, _, _, _, rfl, by rw [List.append_assoc], rfl, ?_⟩
        have := rem_take wd (q5 + 1); omega
    · have ha := cutW_len w5 none (some 1)
      have hb := cutW_len w5 (some 1) none
      have hp := put q5 (cutW w5 none (some 1) ++ x ++ cutW w5 (some 1) none) h5
      repeat (first | (apply sat_t; (focus ((walk_at "evs"); done))) | (apply sat_f; (focus ((walk_at "evs"); done))))
      apply sat_eq
      · (repeat' (first | with_reducible exact o_slS l5 | walk_at "ev1"))
        all_goals (try simp only [List.length_append])
        all_goals (show _ ≤ 1000000)
        all_goals omega
      · exact fin _ _ _ _ _ _ _ (by have a := s5 (cutW w5 none (some 1) ++ x ++ cutW w5 (some 1) none); simp only [List.length_append] at a; omega)
    · have hb := cutW_len w5 (some 1) none
      have hp := put q5 (cutW w5 (some 1) none) h5
      repeat (first | (apply sat_t; (focus ((walk_at "evs"); done))) | (apply sat_f; (focus ((walk_at "evs"); done))))
      apply sat_eq
      · (repeat' (first | with_reducible exact o_slS l5 | walk_at "ev1"))
      · exact fin _ _ _ _ _ _ _ (by have a := s5 (cutW w5 (some 1) none); omega)
  · rintro ρ st' ⟨j, g, ls, o2, o4, o5, o6, o7, o8, rfl, rfl, hg, hr⟩
    have hc : (st ++ g)[st.length + j]? = some (.lst (ls.map W.str)) := by rw [cell_at]; exact hg
    have hsum : (ls.map List.length).sum + ls.length * [32].length ≤ LIM := by
      have : (ls.map List.length).sum + ls.length = rem ls := by
        clear hg hc hr
        induction ls with
        | nil => rfl
        | cons y r ih => simp only [rem_cons, List.map_cons, List.sum_cons, List.length_cons]; omega
      simp only [List.length_cons, List.length_nil]
      show _ ≤ 1000000
      omega
    have hj := o_join (sep := [32]) (lstOf_l hc) hsum
    have hlen : (joinN [32] ls).length ≤ rem ls := by
      cases ls with
      | nil => simp [joinN]
      | cons y r => have := rem_join (ls := y :: r) (by simp); omega
    apply sat_ret
    · (walk_at "evs")
    · exact ⟨_, _, rfl, ⟨_, rfl⟩, rfl, _, rfl, by omega⟩
end P
set_option Elab.async false
set_option linter.all false
set_option maxRecDepth 100000
set_option maxHeartbeats 4000000
namespace P
open PySem L2
abbrev PLN : List (List Nat) := [[111, 110, 101, 32, 97], [97, 32, 105, 110, 32, 66], [90, 32, 108, 101, 102, 116, 32, 121], [97, 32, 114, 105, 103, 104, 116, 32, 97], [113, 32, 98, 101, 108, 111, 119, 32, 98], [111, 110, 101, 32, 75]]
abbrev PAD : List (List Nat) := [[32], [97], [40], [32, 110, 111, 116], [122, 32]]
abbrev AOR : List (List Nat) := [[32, 97, 110, 100, 32], [32, 111, 114, 32]]
theorem mem_mod {ls : List (List Nat)} (h : 0 < ls.length) (d : Int) : ∃ x ∈ ls, atI (ls.map W.str) (d % (ls.length : Int)) = some (.str x) := by
  obtain ⟨q, hq, e⟩ := mod_nat (q := d) h
  refine ⟨ls[q], List.getElem_mem _, ?_⟩
  rw [e]
  exact at_nat (by simp [hq])
theorem rep_len (l : List Nat) (k : Nat) : (List.replicate k l).flatten.length = k * l.length := L2.len_rep l k
def TxI (st : List Cell) (n k : Nat) (ds : List Int) (B : Nat) : EnvW → List Cell → Prop := fun ρ st' => ∃ (l : List Nat) (sp : Nat) (g : List Cell) (o3 o5 o7 o8 o9 : Option W), ρ = [some (.loc n), some (.int k), some (.loc st.length), o3, some (.int sp), o5, some (.str l), o7, o8, o9] ∧ st' = st ++ g ∧ g[0]? = some (.lst (ds.map W.int)) ∧ l.length ≤ B ∧ sp ≤ 2
theorem text_ok {st : List Cell} {n : Nat} {ns : List Int} (h : st[n]? = some (.ro (ns.map W.int))) (k : Nat) (hk : k ≤ 100) : ∃ l : List Nat, l.length ≤ 100000 ∧ f__law_text_of [.loc n, .int k] st = .ok (.str l) st := by
  suffices hh : Sat (rtP fun w st' => (∃ x, st' = st ++ x) ∧ undWs st.length [w] = true ∧ ∃ l : List Nat, w = .str l ∧ l.length ≤ 100000) (g__law_text_of ([W.loc n, .int k].map some ++ List.replicate (10 - 2) none) st) by
    obtain ⟨w, ⟨l, rfl, h1⟩, e⟩ := run_val hh
    exact ⟨l, h1, e⟩
  obtain ⟨c0, e0⟩ := cell_ok h ((k : Int) + 4)
  obtain ⟨ds, hl, hp, e1⟩ := draws_ok c0 (600011 + 500 * k) 18 (by omega) st
  have e1 : f__law_draws [.int c0, .int 18, .int (600011 + 500 * k)] st = _ := e1
  have hds : ∀ i : Nat, i < 18 → ∃ d, ds[i]? = some d := fun i hi => ⟨ds[i]'(by omega), by simp⟩
  obtain ⟨d0, x0⟩ := hds 0 (by omega)
  obtain ⟨d1, x1⟩ := hds 1 (by omega)
  obtain ⟨d2, x2⟩ := hds 2 (by omega)
  obtain ⟨d3, x3⟩ := hds 3 (by omega)
  obtain ⟨d4, x4⟩ := hds 4 (by omega)
  obtain ⟨d5, x5⟩ := hds 5 (by omega)
  have hix : ∀ (g : List Cell), g[0]? = some (.lst (ds.map W.int)) → ∀ (i : Nat) (z d : Int), z = i → ds[i]? = some d → wIx (.loc st.length) (.int z) (st ++ g) = .ok (.int d) (st ++ g) := fun g hg i z d hz hd => by subst hz; exact o_ixL (lstOf_l (by rw [cell_at0]; exact hg)) (at_nat (by simp [hd]))
  apply sat_seq
  · (walk_at "evs")
    exact .inl (by decide)
  have i0 := hix [.lst (ds.map W.int)] rfl 0 0 d0 rfl x0
  have i1 := hix [.lst (ds.map W.int)] rfl 1 1 d1 rfl x1
  have i2 := hix [.lst (ds.map W.int)] rfl 2 2 d2 rfl x2
  apply sat_seq
  · (walk_at "evs")
  apply sat_seq
  · (walk_at "evs")
  obtain ⟨pl, hpl, epl⟩ := mem_mod (ls := PLN) (by decide) d2
  have hpl9 : pl.length ≤ 9 := by
    have : ∀ y ∈ PLN, y.length ≤ 9 := by decide
    exact this _ hpl
  have cpl : (st ++ [Cell.lst (ds.map W.int)] ++ [Cell.lst (PLN.map W.str)])[(st ++ [Cell.lst (ds.map W.int)]).length]? = some (.lst (PLN.map W.str)) := by rw [cell_at0]; rfl
  have ipl := o_ixL (lstOf_l cpl) epl
  have i2' := hix [.lst (ds.map W.int), .lst (PLN.map W.str)] rfl 2 2 d2 rfl x2
  have ha2 : st ++ [Cell.lst (ds.map W.int)] ++ [Cell.lst (PLN.map W.str)] = st ++ [Cell.lst (ds.map W.int), Cell.lst (PLN.map W.str)] := by simp
  rw [← ha2] at i2'
  have ipl : wIx (.loc (st ++ [Cell.lst (ds.map W.int)]).length) (.int (d2 % 6)) (st ++ [Cell.lst (ds.map W.int)] ++ [Cell.lst (PLN.map W.str)]) = .ok (.str pl) (st ++ [Cell.lst (ds.map W.int)] ++ [Cell.lst (PLN.map W.str)]) := ipl
  apply sat_seq
  · (walk_at "evs")
  obtain ⟨s, hs, hsp, e6⟩ := one_of_ok (cell_old (x := [Cell.lst (ds.map W.int), Cell.lst (PLN.map W.str)]) h) k hk
  have e7 := written_ok s hs (by omega) 40 (by omega) (st ++ [Cell.lst (ds.map W.int), Cell.lst (PLN.map W.str)])
  have hsl := s.len_le hs
  rw [ha2]
  apply sat_seq
  · (walk_at "evs")
  generalize hG : ([Cell.lst (ds.map W.int), Cell.lst (PLN.map W.str)] : List Cell) = G at *
  have hG0 : G[0]? = some (.lst (ds.map W.int)) := by rw [← hG]; rfl
  have j3 := hix G hG0 3 3 d3 rfl x3
  have j4 := hix G hG0 4 4 d4 rfl x4
  have j5 := hix G hG0 5 5 d5 rfl x5
  have hsl' : s.txt.length ≤ 270 := by omega
  generalize s.txt = t0 at hsl' e7
  obtain ⟨q1, hq1, eq1⟩ := mod_nat (q := d1) (n := 3) (by omega)
  have eq1 : d1 % 3 = (q1 : Int) := eq1
  rw [eq1]
  refine sat_cut (TxI st n k ds 3000) ?_ ?_
  · have nx : ∀ (l : List Nat) (sp : Nat) (o3 o5 o7 o8 : Option W) (g : List Cell), g[0]? = some (.lst (ds.map W.int)) → l.length ≤ 3000 → sp ≤ 2 → nxP (TxI st n k ds 3000) (.nx [some (.loc n), some (.int k), some (.loc st.length), o3, some (.int sp), o5, some (.str l), o7, o8, none] (st ++ g)) :=
      fun l sp o3 o5 o7 o8 g hg h1 h2 => ⟨_, _, rfl, l, sp, g, _, _, _, _, _, rfl, rfl, hg, h1, h2⟩
    obtain ⟨r1, hr1, er1⟩ : ∃ r1 : Nat, r1 ≤ 2 ∧ (q1 : Int) % 2 = r1 := ⟨q1 % 2, by omega, by omega⟩
    by_cases k3 : d0 % 6 = 3
    · have main3 : ∀ m : Nat, m ≤ 75 → Sat (nxP (TxI st n k ds 3000)) ((xSeq (xSet 6 (e2 wAdd (e2 wAdd (e2 wMulA (eC (.str [110, 111, 116, 32])) (eVar 7)) (e2 wMulA (eC (.str [115, 111, 109, 101, 32, 120, 32])) (e2 wMod (e2 wIx (eVar 2) (eC (.int 5))) (eC (.int 4))))) (eVar 5))) (xSet 4 (e2 wMod (eVar 4) (eC (.int 2))))) [some (.loc n), some (.int k), some (.loc st.length), some (.int (d0 % 6)), some (.int q1), some (.str pl), some (.str t0), some (.int m), none, none] (st ++ G)) := by
        intro m hm
        obtain ⟨q5, hq5, eq5⟩ := mod_nat (q := d5) (n := 4) (by omega)
        have eq5 : d5 % 4 = (q5 : Int) := eq5
        have m1 : wMulA (.str [110, 111, 116, 32]) (.int m) (st ++ G) = .ok (.str (List.replicate (m : Int).toNat [110, 111, 116, 32]).flatten) (st ++ G) := o_mulS ⟨by omega, by omega, by simp only [List.length_cons, List.length_nil, Int.toNat_natCast]; show _ ≤ 1000000; omega⟩
        have m2 : wMulA (.str [115, 111, 109, 101, 32, 120, 32]) (.int (d5 % 4)) (st ++ G) = .ok (.str (List.replicate (d5 % 4).toNat [115, 111, 109, 101, 32, 120, 32]).flatten) (st ++ G) := o_mulS ⟨by omega, by omega, by rw [eq5]; simp only [List.length_cons, List.length_nil, Int.toNat_natCast]; show _ ≤ 1000000; omega⟩
        have l1 := rep_len [110, 111, 116, 32] (m : Int).toNat
        have l2 := rep_len [115, 111, 109, 101, 32, 120, 32] (d5 % 4).toNat
        have l1 : (List.replicate (m : Int).toNat [110, 111, 116, 32]).flatten.length ≤ 300 := by rw [l1]; simp only [List.length_cons, List.length_nil, Int.toNat_natCast]; omega
        have l2 : (List.replicate (d5 % 4).toNat [115, 111, 109, 101, 32, 120, 32]).flatten.length ≤ 21 := by rw [l2, eq5]; simp only [List.length_cons, List.length_nil, Int.toNat_natCast]; omega
        generalize (List.replicate (m : Int).toNat [110, 111, 116, 32]).flatten = A at m1 l1
        generalize (List.replicate (d5 % 4).toNat [115, 111, 109, 101, 32, 120, 32]).flatten = B at m2 l2
        apply sat_seq
        · have sa : A.length + B.length ≤ LIM := by show _ ≤ 1000000; omega
          have sb : (A ++ B).length + pl.length ≤ LIM := by rw [List.length_append]; show _ ≤ 1000000; omega
          exact k_set (k_2 (k_2 (k_2 k_C (k_var rfl) m1) (k_2 k_C (k_2 (k_2 (k_var rfl) k_C j5) k_C (o_II (by decide))) m2) (o_addS sa)) (k_var rfl) (o_addS sb))
        apply sat_eq
        · (walk_at "evs")
        · rw [er1]
          exact nx _ _ _ _ _ _ G hG0 (by simp only [List.length_append]; omega) hr1
      have t3 : (d0 % 6 == 3) = true := beq_iff_eq.mpr k3
      apply sat_t
      · (walk_at "evs")
      apply sat_seq
      · (walk_at "evs")
      obtain ⟨qa, hqa, eqa⟩ := mod_nat (q := d3) (n := 4) (by omega)
      have eqa : d3 % 4 = (qa : Int) := eqa
      obtain ⟨qb, hqb, eqb⟩ := mod_nat (q := d3) (n := 8) (by omega)
      have eqb : d3 % 8 = (qb : Int) := eqb
      by_cases k4 : d4 % 2 = 1
      · have t4 : (d4 % 2 == 1) = true := beq_iff_eq.mpr k4
        apply sat_seq
        · apply k_if_t
          · (walk_at "evs")
          · (walk_at "evs")
        rw [eqb]
        exact main3 (68 + qb) (by omega)
      · have t4 : (d4 % 2 == 1) = false := beq_eq_false_iff_ne.mpr k4
        apply sat_seq
        · apply k_if_f
          · (walk_at "evs")
          · (walk_at "evs")
        rw [eqa]
        exact main3 (27 + qa) (by omega)
    have t3 : (d0 % 6 == 3) = false := beq_eq_false_iff_ne.mpr k3
    apply sat_f
    · (walk_at "evs")
    by_cases k4 : d0 % 6 = 4
    · have t4 : (d0 % 6 == 4) = true := beq_iff_eq.mpr k4
      obtain ⟨qa, hqa, eqa⟩ := mod_nat (q := d3) (n := 7) (by omega)
      have eqa : d3 % 7 = (qa : Int) := eqa
      obtain ⟨pd, hpd, epd⟩ := mem_mod (ls := PAD) (by decide) d4
      have hpd4 : pd.length ≤ 4 := by
        have : ∀ y ∈ PAD, y.length ≤ 4 := by decide
        exact this _ hpd
      have cpd : (st ++ G ++ [Cell.lst (PAD.map W.str)])[(st ++ G).length]? = some (.lst (PAD.map W.str)) := by rw [cell_at0]; rfl
      have ipd : wIx (.loc (st ++ G).length) (.int (d4 % 5)) (st ++ G ++ [Cell.lst (PAD.map W.str)]) = .ok (.str pd) (st ++ G ++ [Cell.lst (PAD.map W.str)]) := o_ixL (lstOf_l cpd) epd
      have j4' : wIx (.loc st.length) (.int 4) (st ++ G ++ [Cell.lst (PAD.map W.str)]) = .ok (.int d4) (st ++ G ++ [Cell.lst (PAD.map W.str)]) := by
        rw [List.append_assoc]
        refine hix _ ?_ 4 4 d4 rfl x4
        rw [← hG]; rfl
      have j3' : wIx (.loc st.length) (.int 3) (st ++ G ++ [Cell.lst (PAD.map W.str)]) = .ok (.int d3) (st ++ G ++ [Cell.lst (PAD.map W.str)]) := by
        rw [List.append_assoc]
        refine hix _ ?_ 3 3 d3 rfl x3
        rw [← hG]; rfl
      have mp : wMulA (.str pd) (.int (297 + d3 % 7 - (t0.length : Int))) (st ++ G ++ [Cell.lst (PAD.map W.str)]) = .ok (.str (List.replicate (297 + d3 % 7 - (t0.length : Int)).toNat pd).flatten) (st ++ G ++ [Cell.lst (PAD.map W.str)]) := o_mulS ⟨by omega, by omega, by
        have h1 : pd.length * (297 + d3 % 7 - (t0.length : Int)).toNat ≤ 4 * 400 := Nat.mul_le_mul hpd4 (by omega)
        show _ ≤ 1000000; omega⟩
      have lp := rep_len pd (297 + d3 % 7 - (t0.length : Int)).toNat
      have lp : (List.replicate (297 + d3 % 7 - (t0.length : Int)).toNat pd).flatten.length ≤ 1600 := by
        rw [lp]
        exact Nat.mul_le_mul (show (297 + d3 % 7 - (t0.length : Int)).toNat ≤ 400 by omega) hpd4
      generalize (List.replicate (297 + d3 % 7 - (t0.length : Int)).toNat pd).flatten = A at mp lp
      have hL1 : (t0 ++ A).length ≤ LIM := by rw [List.length_append]; show _ ≤ 1000000; omega
      apply sat_t
      · (walk_at "evs")
      apply sat_seq
      · (repeat' (first | with_reducible exact o_lenS (l := t0) (by show _ ≤ 1000000; omega) | walk_at "ev1"))
      apply sat_seq
      · (walk_at "evs")
        show _ ≤ 1000000; omega
      apply sat_seq
      · (repeat' (first | with_reducible exact o_slS hL1 | walk_at "ev1"))
      apply sat_eq
      · (walk_at "evs")
      · rw [List.append_assoc]
        refine nx _ 0 _ _ _ _ _ ?_ ?_ (by omega)
        · rw [← hG]; rfl
        · have := cutW_len (t0 ++ A) none (some (297 + d3 % 7))
          rw [List.length_append] at this
          omega
    have t4 : (d0 % 6 == 4) = false := beq_eq_false_iff_ne.mpr k4
    apply sat_f
    · (walk_at "evs")
    by_cases k5 : d0 % 6 = 5
    · have t5 : (d0 % 6 == 5) = true := beq_iff_eq.mpr k5
      obtain ⟨qa, hqa, eqa⟩ := mod_nat (q := d3) (n := 11) (by omega)
      have eqa : d3 % 11 = (qa : Int) := eqa
      obtain ⟨pd, hpd, epd⟩ := mem_mod (ls := AOR) (by decide) d4
      have hpd4 : pd.length ≤ 5 := by
        have : ∀ y ∈ AOR, y.length ≤ 5 := by decide
        exact this _ hpd
      have cpd : (st ++ G ++ [Cell.lst [.str [32, 97, 110, 100, 32], .str [32, 111, 114, 32]]])[(st ++ G).length]? = some (.lst (AOR.map W.str)) := by rw [cell_at0]; rfl
      have ipd : wIx (.loc (st ++ G).length) (.int (d4 % 2)) (st ++ G ++ [Cell.lst [.str [32, 97, 110, 100, 32], .str [32, 111, 114, 32]]]) = .ok (.str pd) (st ++ G ++ [Cell.lst [.str [32, 97, 110, 100, 32], .str [32, 111, 114, 32]]]) := o_ixL (lstOf_l cpd) epd
      have j4' : wIx (.loc st.length) (.int 4) (st ++ G ++ [Cell.lst [.str [32, 97, 110, 100, 32], .str [32, 111, 114, 32]]]) = .ok (.int d4) (st ++ G ++ [Cell.lst [.str [32, 97, 110, 100, 32], .str [32, 111, 114, 32]]]) := by
        rw [List.append_assoc]
        refine hix _ ?_ 4 4 d4 rfl x4
        rw [← hG]; rfl
      have m1 : wMulA (.str [40, 32]) (.int (10 + d3 % 11)) (st ++ G) = .ok (.str (List.replicate (10 + d3 % 11).toNat [40, 32]).flatten) (st ++ G) := o_mulS ⟨by omega, by omega, by simp only [List.length_cons, List.length_nil]; show _ ≤ 1000000; omega⟩
      have l1 := rep_len [40, 32] (10 + d3 % 11).toNat
      have l1 : (List.replicate (10 + d3 % 11).toNat [40, 32]).flatten.length ≤ 40 := by rw [l1]; simp only [List.length_cons, List.length_nil]; omega
      generalize (List.replicate (10 + d3 % 11).toNat [40, 32]).flatten = A at m1 l1
      have hU : (pd ++ pl ++ [32, 41]).length ≤ 16 := by simp only [List.length_append, List.length_cons, List.length_nil]; omega
      have m2 : wMulA (.str (pd ++ pl ++ [32, 41])) (.int (10 + d3 % 11)) (st ++ G ++ [Cell.lst [.str [32, 97, 110, 100, 32], .str [32, 111, 114, 32]]]) = .ok (.str (List.replicate (10 + d3 % 11).toNat (pd ++ pl ++ [32, 41])).flatten) (st ++ G ++ [Cell.lst [.str [32, 97, 110, 100, 32], .str [32, 111, 114, 32]]]) := o_mulS ⟨by omega, by omega, by
        have h1 : (pd ++ pl ++ [32, 41]).length * (10 + d3 % 11).toNat ≤ 16 * 30 := Nat.mul_le_mul hU (by omega)
        show _ ≤ 1000000; omega⟩
      have l2 := rep_len (pd ++ pl ++ [32, 41]) (10 + d3 % 11).toNat
      have l2 : (List.replicate (10 + d3 % 11).toNat (pd ++ pl ++ [32, 41])).flatten.length ≤ 480 := by
        rw [l2]
        exact Nat.mul_le_mul (show (10 + d3 % 11).toNat ≤ 30 by omega) hU
      generalize (List.replicate (10 + d3 % 11).toNat (pd ++ pl ++ [32, 41])).flatten = B at m2 l2
      apply sat_t
      · (walk_at "evs")
      apply sat_seq
      · (walk_at "evs")
      apply sat_seq
      · (walk_at "evs")
        all_goals (try simp only [List.length_append, List.length_cons, List.length_nil])
        all_goals (show _ ≤ 1000000)
        all_goals omega
      apply sat_eq
      · (walk_at "evs")
      · rw [er1, List.append_assoc st]
        refine nx _ _ _ _ _ _ _ ?_ ?_ hr1
        · rw [← hG]; rfl
        · simp only [List.length_append, List.length_cons, List.length_nil]; omega
    have t5 : (d0 % 6 == 5) = false := beq_eq_false_iff_ne.mpr k5
    apply sat_f
    · (walk_at "evs")
    apply sat_eq
    · (walk_at "evs")
    · exact nx _ _ _ _ _ _ G hG0 (by omega) (by omega)
  · rintro ρ st' ⟨l, sp, g, o3, o5, o7, o8, o9, rfl, rfl, hg, hlB, hsp2⟩
    refine sat_for (fun i ρ st' => ∃ (l : List Nat) (g : List Cell) (o9 : Option W), ρ = [some (.loc n), some (.int k), some (.loc st.length), o3, some (.int sp), o5, some (.str l), o7, o8, o9] ∧ st' = st ++ g ∧ g[0]? = some (.lst (ds.map W.int)) ∧ l.length ≤ 3000 * 4 ^ i) (i_range1 (by (walk_at "evs")) (by omega)) ⟨l, g, o9, rfl, rfl, hg, by simpa using hlB⟩ (fun _ _ _ _ => trivial) ?_ ?_
    · rintro i w ρ st' hw ⟨l, g, o9, rfl, rfl, hg, hlB⟩
      obtain ⟨hi, rfl⟩ := rangeW_at hw
      refine ⟨_, rfl, ?_⟩
      have hi2 : i < 2 := by omega
      have hc : (st ++ g)[st.length]? = some (.lst (ds.map W.int)) := by rw [cell_at0]; exact hg
      have hsl := o_slL (l := some (6 + 6 * (0 + (i : Int)))) (h := some (12 + 6 * (0 + (i : Int)))) (lstOf_l hc)
      have hcut : cutW (ds.map W.int) (some (6 + 6 * (0 + (i : Int)))) (some (12 + 6 * (0 + (i : Int)))) = (cutW ds (some (6 + 6 * (0 + (i : Int)))) (some (12 + 6 * (0 + (i : Int))))).map W.int := by
        unfold cutW; simp [List.map_take, List.map_drop]
      have hcl : (cutW ds (some (6 + 6 * (0 + (i : Int)))) (some (12 + 6 * (0 + (i : Int))))).length = 6 := by
        rw [show (6 + 6 * (0 + (i : Int))) = ((6 + 6 * i : Nat) : Int) by omega, show (12 + 6 * (0 + (i : Int))) = ((12 + 6 * i : Nat) : Int) by omega]
        unfold cutW
        rw [HT.sIx_nat, HT.sIx_nat, List.length_take, List.length_drop, hl]
        omega
      rw [hcut] at hsl
      generalize cutW ds (some (6 + 6 * (0 + (i : Int)))) (some (12 + 6 * (0 + (i : Int)))) = dd at hsl hcl
      have hp4 : 4 ^ i ≤ 4 := by
        have : i = 0 ∨ i = 1 := by omega
        rcases this with rfl | rfl <;> decide
      obtain ⟨l', hl', el'⟩ := spoilt_ok (st := st ++ g ++ [Cell.lst (dd.map W.int)]) (nd := (st ++ g).length) (ds := dd) (by rw [cell_at0]; rfl) hcl l (by omega)
      apply sat_eq
      · (walk_at "evs")
        all_goals exact .inl (by decide)
      · refine ⟨_, _, rfl, l', g ++ [Cell.lst (dd.map W.int)], _, rfl, by simp, by
          cases g with
          | nil => cases hg
          | cons c g => exact hg, ?_⟩
        have : 1 ≤ 4 ^ i := Nat.one_le_pow _ _ (by omega)
        rw [Nat.pow_succ]; omega
    · rintro ρ st' ⟨l, g, o9, rfl, rfl, hg, hlB⟩
      have : (rangeW 0 (sp : Int).toNat).length ≤ 2 := by rw [rangeW_len]; omega
      have h16 : 4 ^ (rangeW 0 (sp : Int).toNat).length ≤ 4 ^ 2 := Nat.pow_le_pow_right (by omega) this
      apply sat_ret
      · (walk_at "evs")
      · exact ⟨_, _, rfl, ⟨_, rfl⟩, rfl, l, rfl, by
          have hlB' : l.length ≤ 3000 * 4 ^ (rangeW 0 (sp : Int).toNat).length := hlB
          omega⟩
theorem law_ok : LawOk f_law := by
  intro ns hn
  have h0 : ([Cell.ro (ns.map W.int)] : List Cell)[0]? = some (.ro (ns.map W.int)) := rfl
  obtain ⟨l1, p1, e1⟩ := text_ok h0 0 (by omega)
  obtain ⟨l2, p2, e2'⟩ := text_ok h0 5 (by omega)
  have e1 : f__law_text_of [.loc 0, .int 0] [Cell.ro (ns.map W.int)] = .ok (.str l1) [Cell.ro (ns.map W.int)] := e1
  have e2' : f__law_text_of [.loc 0, .int 5] [Cell.ro (ns.map W.int)] = .ok (.str l2) [Cell.ro (ns.map W.int)] := e2'
  refine ⟨[Cell.ro (ns.map W.int)], run_self' ?_⟩
  apply sat_seq
  · (walk_at "evs")
  apply sat_seq
  · (walk_at "evs")
  refine sat_for (fun i ρ st' => ∃ o3 : Option W, ρ = [some (.loc 0), some (.str l1), some (.str l2), o3] ∧ st' = [Cell.ro (ns.map W.int)]) (k := ([.str l1, .str l2, .str l1], none)) (i_any_t (by (walk_at "evs"))) ⟨none, rfl, rfl⟩ (fun _ _ _ _ => trivial) ?_ ?_
  · rintro i w ρ st' hw ⟨o3, rfl, rfl⟩
    obtain ⟨l, hp, rfl⟩ : ∃ l : List Nat, l.length ≤ 100000 ∧ w = .str l := by
      have := List.mem_of_getElem? hw
      simp at this
      rcases this with h | h | h
      · exact ⟨l1, p1, h⟩
      · exact ⟨l2, p2, h⟩
      · exact ⟨l1, p1, h⟩
    refine ⟨_, rfl, ?_⟩
    have a1 := read_due hp [Cell.ro (ns.map W.int)]
    have a2 := due_ok hp [Cell.ro (ns.map W.int)]
    have a3 := same_due (l := l) [Cell.ro (ns.map W.int)]
    apply sat_f
    · (walk_at "evs")
    apply sat_eq
    · (walk_at "evs")
    · exact ⟨_, _, rfl, _, rfl, rfl⟩
  · rintro ρ st' ⟨o3, rfl, rfl⟩
    apply sat_ret
    · (walk_at "evs")
    · exact ⟨_, _, rfl, rfl, rfl⟩
end P
set_option Elab.async false
set_option linter.all false
set_option maxRecDepth 100000
set_option maxHeartbeats 4000000
namespace P
open PySem L2
theorem all_mk {l : PySem.W.OpenLaw} {w : World} {K : PySem.W.Frag} {h : Heap} {mg : Str → Option Value} {fa : Addr} (X : K.In h) (G : h.Ns mainGlobals mg) (hfa : mg "law" = some (.ref fa))
    {ad_is_letter ad_is_plain ad_inner_of ad_parts_many ad_is_said ad_is_lettered ad_plain_end ad_front_end ad_bracket_end ad_end_of ad_words_many ad_read_words ad_read_statement ad__law_cell ad__law_mixed ad__law_draws ad__law_pool ad__law_built ad__law_one_of ad__law_written ad__law_letter_at ad__law_parsed ad__law_joint ad__law_parts ad__law_spoilt ad__law_text_of ad__law_read ad__law_same ad__law_due ad_law : Addr} {od_is_letter an_is_letter od_is_plain an_is_plain od_inner_of an_inner_of od_parts_many an_parts_many od_is_said an_is_said od_is_lettered an_is_lettered od_plain_end an_plain_end od_front_end an_front_end od_bracket_end an_bracket_end od_end_of an_end_of od_words_many an_words_many od_read_words an_read_words od_read_statement an_read_statement od__law_cell an__law_cell od__law_mixed an__law_mixed od__law_draws an__law_draws od__law_pool an__law_pool od__law_built an__law_built od__law_one_of an__law_one_of od__law_written an__law_written od__law_letter_at an__law_letter_at od__law_parsed an__law_parsed od__law_joint an__law_joint od__law_parts an__law_parts od__law_spoilt an__law_spoilt od__law_text_of an__law_text_of od__law_read an__law_read od__law_same an__law_same od__law_due an__law_due od_law an_law : Option Addr} {sl_is_letter sl_is_plain sl_inner_of sl_parts_many sl_is_said sl_is_lettered sl_plain_end sl_front_end sl_bracket_end sl_end_of sl_words_many sl_read_words sl_read_statement sl__law_cell sl__law_mixed sl__law_draws sl__law_pool sl__law_built sl__law_one_of sl__law_written sl__law_letter_at sl__law_parsed sl__law_joint sl__law_parts sl__law_spoilt sl__law_text_of sl__law_read sl__law_same sl__law_due sl_law : Array (Option Value)} {oc_is_letter kV_is_letter dc_is_letter pm_is_letter cd_is_letter ct_is_letter oc_is_plain kV_is_plain dc_is_plain pm_is_plain cd_is_plain ct_is_plain oc_inner_of kV_inner_of dc_inner_of pm_inner_of cd_inner_of ct_inner_of oc_parts_many kV_parts_many dc_parts_many pm_parts_many cd_parts_many ct_parts_many oc_is_said kV_is_said dc_is_said pm_is_said cd_is_said ct_is_said oc_is_lettered kV_is_lettered dc_is_lettered pm_is_lettered cd_is_lettered ct_is_lettered oc_plain_end kV_plain_end dc_plain_end pm_plain_end cd_plain_end ct_plain_end oc_front_end kV_front_end dc_front_end pm_front_end cd_front_end ct_front_end oc_bracket_end kV_bracket_end dc_bracket_end pm_bracket_end cd_bracket_end ct_bracket_end oc_end_of kV_end_of dc_end_of pm_end_of cd_end_of ct_end_of oc_words_many kV_words_many dc_words_many pm_words_many cd_words_many ct_words_many oc_read_words kV_read_words dc_read_words pm_read_words cd_read_words ct_read_words oc_read_statement kV_read_statement dc_read_statement pm_read_statement cd_read_statement ct_read_statement oc__law_cell kV__law_cell dc__law_cell pm__law_cell cd__law_cell ct__law_cell oc__law_mixed kV__law_mixed dc__law_mixed pm__law_mixed cd__law_mixed ct__law_mixed oc__law_draws kV__law_draws dc__law_draws pm__law_draws cd__law_draws ct__law_draws oc__law_pool kV__law_pool dc__law_pool pm__law_pool cd__law_pool ct__law_pool oc__law_built kV__law_built dc__law_built pm__law_built cd__law_built ct__law_built oc__law_one_of kV__law_one_of dc__law_one_of pm__law_one_of cd__law_one_of ct__law_one_of oc__law_written kV__law_written dc__law_written pm__law_written cd__law_written ct__law_written oc__law_letter_at kV__law_letter_at dc__law_letter_at pm__law_letter_at cd__law_letter_at ct__law_letter_at oc__law_parsed kV__law_parsed dc__law_parsed pm__law_parsed cd__law_parsed ct__law_parsed oc__law_joint kV__law_joint dc__law_joint pm__law_joint cd__law_joint ct__law_joint oc__law_parts kV__law_parts dc__law_parts pm__law_parts cd__law_parts ct__law_parts oc__law_spoilt kV__law_spoilt dc__law_spoilt pm__law_spoilt cd__law_spoilt ct__law_spoilt oc__law_text_of kV__law_text_of dc__law_text_of pm__law_text_of cd__law_text_of ct__law_text_of oc__law_read kV__law_read dc__law_read pm__law_read cd__law_read ct__law_read oc__law_same kV__law_same dc__law_same pm__law_same cd__law_same ct__law_same oc__law_due kV__law_due dc__law_due pm__law_due cd__law_due ct__law_due oc_law kV_law dc_law pm_law cd_law ct_law : Value} {A_TrunkError : Addr} {A_NoTree : Addr} {A_NoStatement : Addr} {A_NoPlace : Addr} {A_NoNumber : Addr} {A_TooGreat : Addr} {A_NoName : Addr} {A_NoLine : Addr} {A_NothingDone : Addr} {A_NothingHeld : Addr} {q_ALL_LETTERS : Tok} {A_TWO_LETTERED : Addr} {od_TWO_LETTERED : Option Addr} {sl_TWO_LETTERED : Array (Option Value)} {nn_TWO_LETTERED : Nat} {q_TWO_LETTERED_0 q_TWO_LETTERED_1 q_TWO_LETTERED_2 q_TWO_LETTERED_3 : Tok} {A_JOINING : Addr} {od_JOINING : Option Addr} {sl_JOINING : Array (Option Value)} {nn_JOINING : Nat} {q_JOINING_0 q_JOINING_1 : Tok} {A_BINDING : Addr} {od_BINDING : Option Addr} {sl_BINDING : Array (Option Value)} {nn_BINDING : Nat} {q_BINDING_0 q_BINDING_1 : Tok} {q_MOST_SIGNS : Tok} {q_MOST_PARTS : Tok}
    (a_is_letter : PySem.W.nsIn K mainGlobals "is_letter" = some (some (.ref ad_is_letter)))
    (l_is_letter : K.lookup ad_is_letter = some ⟨oc_is_letter, od_is_letter, .func (PySem.W.fnOf "is_letter" "is_letter" (defArgs s_is_letter) (defBody s_is_letter) (defScope s_is_letter) .none kV_is_letter dc_is_letter pm_is_letter an_is_letter cd_is_letter ct_is_letter), sl_is_letter⟩)
    (cd_is_letter_ok : PySem.W.codeIn K cd_is_letter "is_letter" = true)
    (k_is_letter : PySem.W.keepIn K (.ref ad_is_letter) = true)
    (a_is_plain : PySem.W.nsIn K mainGlobals "is_plain" = some (some (.ref ad_is_plain)))
    (l_is_plain : K.lookup ad_is_plain = some ⟨oc_is_plain, od_is_plain, .func (PySem.W.fnOf "is_plain" "is_plain" (defArgs s_is_plain) (defBody s_is_plain) (defScope s_is_plain) .none kV_is_plain dc_is_plain pm_is_plain an_is_plain cd_is_plain ct_is_plain), sl_is_plain⟩)
    (cd_is_plain_ok : PySem.W.codeIn K cd_is_plain "is_plain" = true)
    (k_is_plain : PySem.W.keepIn K (.ref ad_is_plain) = true)
    (a_inner_of : PySem.W.nsIn K mainGlobals "inner_of" = some (some (.ref ad_inner_of)))
    (l_inner_of : K.lookup ad_inner_of = some ⟨oc_inner_of, od_inner_of, .func (PySem.W.fnOf "inner_of" "inner_of" (defArgs s_inner_of) (defBody s_inner_of) (defScope s_inner_of) .none kV_inner_of dc_inner_of pm_inner_of an_inner_of cd_inner_of ct_inner_of), sl_inner_of⟩)
    (cd_inner_of_ok : PySem.W.codeIn K cd_inner_of "inner_of" = true)
    (k_inner_of : PySem.W.keepIn K (.ref ad_inner_of) = true)
    (a_parts_many : PySem.W.nsIn K mainGlobals "parts_many" = some (some (.ref ad_parts_many)))
    (l_parts_many : K.lookup ad_parts_many = some ⟨oc_parts_many, od_parts_many, .func (PySem.W.fnOf "parts_many" "parts_many" (defArgs s_parts_many) (defBody s_parts_many) (defScope s_parts_many) .none kV_parts_many dc_parts_many pm_parts_many an_parts_many cd_parts_many ct_parts_many), sl_parts_many⟩)
    (cd_parts_many_ok : PySem.W.codeIn K cd_parts_many "parts_many" = true)
    (k_parts_many : PySem.W.keepIn K (.ref ad_parts_many) = true)
    (a_is_said : PySem.W.nsIn K mainGlobals "is_said" = some (some (.ref ad_is_said)))
    (l_is_said : K.lookup ad_is_said = some ⟨oc_is_said, od_is_said, .func (PySem.W.fnOf "is_said" "is_said" (defArgs s_is_said) (defBody s_is_said) (defScope s_is_said) .none kV_is_said dc_is_said pm_is_said an_is_said cd_is_said ct_is_said), sl_is_said⟩)
    (cd_is_said_ok : PySem.W.codeIn K cd_is_said "is_said" = true)
    (k_is_said : PySem.W.keepIn K (.ref ad_is_said) = true)
    (a_is_lettered : PySem.W.nsIn K mainGlobals "is_lettered" = some (some (.ref ad_is_lettered)))
    (l_is_lettered : K.lookup ad_is_lettered = some ⟨oc_is_lettered, od_is_lettered, .func (PySem.W.fnOf "is_lettered" "is_lettered" (defArgs s_is_lettered) (defBody s_is_lettered) (defScope s_is_lettered) .none kV_is_lettered dc_is_lettered pm_is_lettered an_is_lettered cd_is_lettered ct_is_lettered), sl_is_lettered⟩)
    (cd_is_lettered_ok : PySem.W.codeIn K cd_is_lettered "is_lettered" = true)
    (k_is_lettered : PySem.W.keepIn K (.ref ad_is_lettered) = true)
    (a_plain_end : PySem.W.nsIn K mainGlobals "plain_end" = some (some (.ref ad_plain_end)))
    (l_plain_end : K.lookup ad_plain_end = some ⟨oc_plain_end, od_plain_end, .func (PySem.W.fnOf "plain_end" "plain_end" (defArgs s_plain_end) (defBody s_plain_end) (defScope s_plain_end) .none kV_plain_end dc_plain_end pm_plain_end an_plain_end cd_plain_end ct_plain_end), sl_plain_end⟩)
    (cd_plain_end_ok : PySem.W.codeIn K cd_plain_end "plain_end" = true)
    (k_plain_end : PySem.W.keepIn K (.ref ad_plain_end) = true)
    (a_front_end : PySem.W.nsIn K mainGlobals "front_end" = some (some (.ref ad_front_end)))
    (l_front_end : K.lookup ad_front_end = some ⟨oc_front_end, od_front_end, .func (PySem.W.fnOf "front_end" "front_end" (defArgs s_front_end) (defBody s_front_end) (defScope s_front_end) .none kV_front_end dc_front_end pm_front_end an_front_end cd_front_end ct_front_end), sl_front_end⟩)
    (cd_front_end_ok : PySem.W.codeIn K cd_front_end "front_end" = true)
    (k_front_end : PySem.W.keepIn K (.ref ad_front_end) = true)
    (a_bracket_end : PySem.W.nsIn K mainGlobals "bracket_end" = some (some (.ref ad_bracket_end)))
    (l_bracket_end : K.lookup ad_bracket_end = some ⟨oc_bracket_end, od_bracket_end, .func (PySem.W.fnOf "bracket_end" "bracket_end" (defArgs s_bracket_end) (defBody s_bracket_end) (defScope s_bracket_end) .none kV_bracket_end dc_bracket_end pm_bracket_end an_bracket_end cd_bracket_end ct_bracket_end), sl_bracket_end⟩)
    (cd_bracket_end_ok : PySem.W.codeIn K cd_bracket_end "bracket_end" = true)
    (k_bracket_end : PySem.W.keepIn K (.ref ad_bracket_end) = true)
    (a_end_of : PySem.W.nsIn K mainGlobals "end_of" = some (some (.ref ad_end_of)))
    (l_end_of : K.lookup ad_end_of = some ⟨oc_end_of, od_end_of, .func (PySem.W.fnOf "end_of" "end_of" (defArgs s_end_of) (defBody s_end_of) (defScope s_end_of) .none kV_end_of dc_end_of pm_end_of an_end_of cd_end_of ct_end_of), sl_end_of⟩)
    (cd_end_of_ok : PySem.W.codeIn K cd_end_of "end_of" = true)
    (k_end_of : PySem.W.keepIn K (.ref ad_end_of) = true)
    (a_words_many : PySem.W.nsIn K mainGlobals "words_many" = some (some (.ref ad_words_many)))
    (l_words_many : K.lookup ad_words_many = some ⟨oc_words_many, od_words_many, .func (PySem.W.fnOf "words_many" "words_many" (defArgs s_words_many) (defBody s_words_many) (defScope s_words_many) .none kV_words_many dc_words_many pm_words_many an_words_many cd_words_many ct_words_many), sl_words_many⟩)
    (cd_words_many_ok : PySem.W.codeIn K cd_words_many "words_many" = true)
    (k_words_many : PySem.W.keepIn K (.ref ad_words_many) = true)
    (a_read_words : PySem.W.nsIn K mainGlobals "read_words" = some (some (.ref ad_read_words)))
    (l_read_words : K.lookup ad_read_words = some ⟨oc_read_words, od_read_words, .func (PySem.W.fnOf "read_words" "read_words" (defArgs s_read_words) (defBody s_read_words) (defScope s_read_words) .none kV_read_words dc_read_words pm_read_words an_read_words cd_read_words ct_read_words), sl_read_words⟩)
    (cd_read_words_ok : PySem.W.codeIn K cd_read_words "read_words" = true)
    (k_read_words : PySem.W.keepIn K (.ref ad_read_words) = true)
    (a_read_statement : PySem.W.nsIn K mainGlobals "read_statement" = some (some (.ref ad_read_statement)))
    (l_read_statement : K.lookup ad_read_statement = some ⟨oc_read_statement, od_read_statement, .func (PySem.W.fnOf "read_statement" "read_statement" (defArgs s_read_statement) (defBody s_read_statement) (defScope s_read_statement) .none kV_read_statement dc_read_statement pm_read_statement an_read_statement cd_read_statement ct_read_statement), sl_read_statement⟩)
    (cd_read_statement_ok : PySem.W.codeIn K cd_read_statement "read_statement" = true)
    (k_read_statement : PySem.W.keepIn K (.ref ad_read_statement) = true)
    (a__law_cell : PySem.W.nsIn K mainGlobals "_law_cell" = some (some (.ref ad__law_cell)))
    (l__law_cell : K.lookup ad__law_cell = some ⟨oc__law_cell, od__law_cell, .func (PySem.W.fnOf "_law_cell" "_law_cell" (defArgs s__law_cell) (defBody s__law_cell) (defScope s__law_cell) .none kV__law_cell dc__law_cell pm__law_cell an__law_cell cd__law_cell ct__law_cell), sl__law_cell⟩)
    (cd__law_cell_ok : PySem.W.codeIn K cd__law_cell "_law_cell" = true)
    (k__law_cell : PySem.W.keepIn K (.ref ad__law_cell) = true)
    (a__law_mixed : PySem.W.nsIn K mainGlobals "_law_mixed" = some (some (.ref ad__law_mixed)))
    (l__law_mixed : K.lookup ad__law_mixed = some ⟨oc__law_mixed, od__law_mixed, .func (PySem.W.fnOf "_law_mixed" "_law_mixed" (defArgs s__law_mixed) (defBody s__law_mixed) (defScope s__law_mixed) .none kV__law_mixed dc__law_mixed pm__law_mixed an__law_mixed cd__law_mixed ct__law_mixed), sl__law_mixed⟩)
    (cd__law_mixed_ok : PySem.W.codeIn K cd__law_mixed "_law_mixed" = true)
    (k__law_mixed : PySem.W.keepIn K (.ref ad__law_mixed) = true)
    (a__law_draws : PySem.W.nsIn K mainGlobals "_law_draws" = some (some (.ref ad__law_draws)))
    (l__law_draws : K.lookup ad__law_draws = some ⟨oc__law_draws, od__law_draws, .func (PySem.W.fnOf "_law_draws" "_law_draws" (defArgs s__law_draws) (defBody s__law_draws) (defScope s__law_draws) .none kV__law_draws dc__law_draws pm__law_draws an__law_draws cd__law_draws ct__law_draws), sl__law_draws⟩)
    (cd__law_draws_ok : PySem.W.codeIn K cd__law_draws "_law_draws" = true)
    (k__law_draws : PySem.W.keepIn K (.ref ad__law_draws) = true)
    (a__law_pool : PySem.W.nsIn K mainGlobals "_law_pool" = some (some (.ref ad__law_pool)))
    (l__law_pool : K.lookup ad__law_pool = some ⟨oc__law_pool, od__law_pool, .func (PySem.W.fnOf "_law_pool" "_law_pool" (defArgs s__law_pool) (defBody s__law_pool) (defScope s__law_pool) .none kV__law_pool dc__law_pool pm__law_pool an__law_pool cd__law_pool ct__law_pool), sl__law_pool⟩)
    (cd__law_pool_ok : PySem.W.codeIn K cd__law_pool "_law_pool" = true)
    (k__law_pool : PySem.W.keepIn K (.ref ad__law_pool) = true)
    (a__law_built : PySem.W.nsIn K mainGlobals "_law_built" = some (some (.ref ad__law_built)))
    (l__law_built : K.lookup ad__law_built = some ⟨oc__law_built, od__law_built, .func (PySem.W.fnOf "_law_built" "_law_built" (defArgs s__law_built) (defBody s__law_built) (defScope s__law_built) .none kV__law_built dc__law_built pm__law_built an__law_built cd__law_built ct__law_built), sl__law_built⟩)
    (cd__law_built_ok : PySem.W.codeIn K cd__law_built "_law_built" = true)
    (k__law_built : PySem.W.keepIn K (.ref ad__law_built) = true)
    (a__law_one_of : PySem.W.nsIn K mainGlobals "_law_one_of" = some (some (.ref ad__law_one_of)))
    (l__law_one_of : K.lookup ad__law_one_of = some ⟨oc__law_one_of, od__law_one_of, .func (PySem.W.fnOf "_law_one_of" "_law_one_of" (defArgs s__law_one_of) (defBody s__law_one_of) (defScope s__law_one_of) .none kV__law_one_of dc__law_one_of pm__law_one_of an__law_one_of cd__law_one_of ct__law_one_of), sl__law_one_of⟩)
    (cd__law_one_of_ok : PySem.W.codeIn K cd__law_one_of "_law_one_of" = true)
    (k__law_one_of : PySem.W.keepIn K (.ref ad__law_one_of) = true)
    (a__law_written : PySem.W.nsIn K mainGlobals "_law_written" = some (some (.ref ad__law_written)))
    (l__law_written : K.lookup ad__law_written = some ⟨oc__law_written, od__law_written, .func (PySem.W.fnOf "_law_written" "_law_written" (defArgs s__law_written) (defBody s__law_written) (defScope s__law_written) .none kV__law_written dc__law_written pm__law_written an__law_written cd__law_written ct__law_written), sl__law_written⟩)
    (cd__law_written_ok : PySem.W.codeIn K cd__law_written "_law_written" = true)
    (k__law_written : PySem.W.keepIn K (.ref ad__law_written) = true)
    (a__law_letter_at : PySem.W.nsIn K mainGlobals "_law_letter_at" = some (some (.ref ad__law_letter_at)))
    (l__law_letter_at : K.lookup ad__law_letter_at = some ⟨oc__law_letter_at, od__law_letter_at, .func (PySem.W.fnOf "_law_letter_at" "_law_letter_at" (defArgs s__law_letter_at) (defBody s__law_letter_at) (defScope s__law_letter_at) .none kV__law_letter_at dc__law_letter_at pm__law_letter_at an__law_letter_at cd__law_letter_at ct__law_letter_at), sl__law_letter_at⟩)
    (cd__law_letter_at_ok : PySem.W.codeIn K cd__law_letter_at "_law_letter_at" = true)
    (k__law_letter_at : PySem.W.keepIn K (.ref ad__law_letter_at) = true)
    (a__law_parsed : PySem.W.nsIn K mainGlobals "_law_parsed" = some (some (.ref ad__law_parsed)))
    (l__law_parsed : K.lookup ad__law_parsed = some ⟨oc__law_parsed, od__law_parsed, .func (PySem.W.fnOf "_law_parsed" "_law_parsed" (defArgs s__law_parsed) (defBody s__law_parsed) (defScope s__law_parsed) .none kV__law_parsed dc__law_parsed pm__law_parsed an__law_parsed cd__law_parsed ct__law_parsed), sl__law_parsed⟩)
    (cd__law_parsed_ok : PySem.W.codeIn K cd__law_parsed "_law_parsed" = true)
    (k__law_parsed : PySem.W.keepIn K (.ref ad__law_parsed) = true)
    (a__law_joint : PySem.W.nsIn K mainGlobals "_law_joint" = some (some (.ref ad__law_joint)))
    (l__law_joint : K.lookup ad__law_joint = some ⟨oc__law_joint, od__law_joint, .func (PySem.W.fnOf "_law_joint" "_law_joint" (defArgs s__law_joint) (defBody s__law_joint) (defScope s__law_joint) .none kV__law_joint dc__law_joint pm__law_joint an__law_joint cd__law_joint ct__law_joint), sl__law_joint⟩)
    (cd__law_joint_ok : PySem.W.codeIn K cd__law_joint "_law_joint" = true)
    (k__law_joint : PySem.W.keepIn K (.ref ad__law_joint) = true)
    (a__law_parts : PySem.W.nsIn K mainGlobals "_law_parts" = some (some (.ref ad__law_parts)))
    (l__law_parts : K.lookup ad__law_parts = some ⟨oc__law_parts, od__law_parts, .func (PySem.W.fnOf "_law_parts" "_law_parts" (defArgs s__law_parts) (defBody s__law_parts) (defScope s__law_parts) .none kV__law_parts dc__law_parts pm__law_parts an__law_parts cd__law_parts ct__law_parts), sl__law_parts⟩)
    (cd__law_parts_ok : PySem.W.codeIn K cd__law_parts "_law_parts" = true)
    (k__law_parts : PySem.W.keepIn K (.ref ad__law_parts) = true)
    (a__law_spoilt : PySem.W.nsIn K mainGlobals "_law_spoilt" = some (some (.ref ad__law_spoilt)))
    (l__law_spoilt : K.lookup ad__law_spoilt = some ⟨oc__law_spoilt, od__law_spoilt, .func (PySem.W.fnOf "_law_spoilt" "_law_spoilt" (defArgs s__law_spoilt) (defBody s__law_spoilt) (defScope s__law_spoilt) .none kV__law_spoilt dc__law_spoilt pm__law_spoilt an__law_spoilt cd__law_spoilt ct__law_spoilt), sl__law_spoilt⟩)
    (cd__law_spoilt_ok : PySem.W.codeIn K cd__law_spoilt "_law_spoilt" = true)
    (k__law_spoilt : PySem.W.keepIn K (.ref ad__law_spoilt) = true)
    (a__law_text_of : PySem.W.nsIn K mainGlobals "_law_text_of" = some (some (.ref ad__law_text_of)))
    (l__law_text_of : K.lookup ad__law_text_of = some ⟨oc__law_text_of, od__law_text_of, .func (PySem.W.fnOf "_law_text_of" "_law_text_of" (defArgs s__law_text_of) (defBody s__law_text_of) (defScope s__law_text_of) .none kV__law_text_of dc__law_text_of pm__law_text_of an__law_text_of cd__law_text_of ct__law_text_of), sl__law_text_of⟩)
    (cd__law_text_of_ok : PySem.W.codeIn K cd__law_text_of "_law_text_of" = true)
    (k__law_text_of : PySem.W.keepIn K (.ref ad__law_text_of) = true)
    (a__law_read : PySem.W.nsIn K mainGlobals "_law_read" = some (some (.ref ad__law_read)))
    (l__law_read : K.lookup ad__law_read = some ⟨oc__law_read, od__law_read, .func (PySem.W.fnOf "_law_read" "_law_read" (defArgs s__law_read) (defBody s__law_read) (defScope s__law_read) .none kV__law_read dc__law_read pm__law_read an__law_read cd__law_read ct__law_read), sl__law_read⟩)
    (cd__law_read_ok : PySem.W.codeIn K cd__law_read "_law_read" = true)
    (k__law_read : PySem.W.keepIn K (.ref ad__law_read) = true)
    (a__law_same : PySem.W.nsIn K mainGlobals "_law_same" = some (some (.ref ad__law_same)))
    (l__law_same : K.lookup ad__law_same = some ⟨oc__law_same, od__law_same, .func (PySem.W.fnOf "_law_same" "_law_same" (defArgs s__law_same) (defBody s__law_same) (defScope s__law_same) .none kV__law_same dc__law_same pm__law_same an__law_same cd__law_same ct__law_same), sl__law_same⟩)
    (cd__law_same_ok : PySem.W.codeIn K cd__law_same "_law_same" = true)
    (k__law_same : PySem.W.keepIn K (.ref ad__law_same) = true)
    (a__law_due : PySem.W.nsIn K mainGlobals "_law_due" = some (some (.ref ad__law_due)))
    (l__law_due : K.lookup ad__law_due = some ⟨oc__law_due, od__law_due, .func (PySem.W.fnOf "_law_due" "_law_due" (defArgs s__law_due) (defBody s__law_due) (defScope s__law_due) .none kV__law_due dc__law_due pm__law_due an__law_due cd__law_due ct__law_due), sl__law_due⟩)
    (cd__law_due_ok : PySem.W.codeIn K cd__law_due "_law_due" = true)
    (k__law_due : PySem.W.keepIn K (.ref ad__law_due) = true)
    (a_law : PySem.W.nsIn K mainGlobals "law" = some (some (.ref ad_law)))
    (l_law : K.lookup ad_law = some ⟨oc_law, od_law, .func (PySem.W.fnOf "law" "law" (defArgs s_law) (defBody s_law) (defScope s_law) .none kV_law dc_law pm_law an_law cd_law ct_law), sl_law⟩)
    (cd_law_ok : PySem.W.codeIn K cd_law "law" = true)
    (k_law : PySem.W.keepIn K (.ref ad_law) = true)
    (a_TrunkError : PySem.W.nsIn K mainGlobals "TrunkError" = some (some (.ref A_TrunkError)))
    (a_NoTree : PySem.W.nsIn K mainGlobals "NoTree" = some (some (.ref A_NoTree)))
    (a_NoStatement : PySem.W.nsIn K mainGlobals "NoStatement" = some (some (.ref A_NoStatement)))
    (a_NoPlace : PySem.W.nsIn K mainGlobals "NoPlace" = some (some (.ref A_NoPlace)))
    (a_NoNumber : PySem.W.nsIn K mainGlobals "NoNumber" = some (some (.ref A_NoNumber)))
    (a_TooGreat : PySem.W.nsIn K mainGlobals "TooGreat" = some (some (.ref A_TooGreat)))
    (a_NoName : PySem.W.nsIn K mainGlobals "NoName" = some (some (.ref A_NoName)))
    (a_NoLine : PySem.W.nsIn K mainGlobals "NoLine" = some (some (.ref A_NoLine)))
    (a_NothingDone : PySem.W.nsIn K mainGlobals "NothingDone" = some (some (.ref A_NothingDone)))
    (a_NothingHeld : PySem.W.nsIn K mainGlobals "NothingHeld" = some (some (.ref A_NothingHeld)))
    (x_TrunkError : PySem.W.excIn K A_TrunkError bmVE newVE = true)
    (g1_TrunkError : PySem.W.findIn K (.ref A_TrunkError) "__getattribute__" = some (some (.builtin "BaseException.__getattribute__")))
    (g2_TrunkError : PySem.W.findIn K (.ref A_TrunkError) "__getattr__" = some none)
    (g3_TrunkError : PySem.W.findIn K (.ref A_TrunkError) "__class__" = some (some (.builtin "object.__class__")))
    (w_TrunkError_NoStatement : PySem.W.kitOne K (.ref A_TrunkError) (.ref A_NoStatement) = some false)
    (w_TrunkError_TooGreat : PySem.W.kitOne K (.ref A_TrunkError) (.ref A_TooGreat) = some false)
    (w_TrunkError_t0 : PySem.W.kitAny K (.ref A_TrunkError) ([A_NoTree, A_NoPlace, A_NoNumber, A_NoName, A_NoLine, A_NothingDone, A_NothingHeld].map Value.ref) = some false)
    (w_TrunkError_VE : PySem.W.kitOne K (.ref A_TrunkError) (.type "ValueError") = some true)
    (x_NoStatement : PySem.W.excIn K A_NoStatement bmVE newVE = true)
    (g1_NoStatement : PySem.W.findIn K (.ref A_NoStatement) "__getattribute__" = some (some (.builtin "BaseException.__getattribute__")))
    (g2_NoStatement : PySem.W.findIn K (.ref A_NoStatement) "__getattr__" = some none)
    (g3_NoStatement : PySem.W.findIn K (.ref A_NoStatement) "__class__" = some (some (.builtin "object.__class__")))
    (w_NoStatement_NoStatement : PySem.W.kitOne K (.ref A_NoStatement) (.ref A_NoStatement) = some true)
    (w_NoStatement_TooGreat : PySem.W.kitOne K (.ref A_NoStatement) (.ref A_TooGreat) = some false)
    (w_NoStatement_t0 : PySem.W.kitAny K (.ref A_NoStatement) ([A_NoTree, A_NoPlace, A_NoNumber, A_NoName, A_NoLine, A_NothingDone, A_NothingHeld].map Value.ref) = some false)
    (w_NoStatement_VE : PySem.W.kitOne K (.ref A_NoStatement) (.type "ValueError") = some true)
    (x_TooGreat : PySem.W.excIn K A_TooGreat bmVE newVE = true)
    (g1_TooGreat : PySem.W.findIn K (.ref A_TooGreat) "__getattribute__" = some (some (.builtin "BaseException.__getattribute__")))
    (g2_TooGreat : PySem.W.findIn K (.ref A_TooGreat) "__getattr__" = some none)
    (g3_TooGreat : PySem.W.findIn K (.ref A_TooGreat) "__class__" = some (some (.builtin "object.__class__")))
    (w_TooGreat_NoStatement : PySem.W.kitOne K (.ref A_TooGreat) (.ref A_NoStatement) = some false)
    (w_TooGreat_TooGreat : PySem.W.kitOne K (.ref A_TooGreat) (.ref A_TooGreat) = some true)
    (w_TooGreat_t0 : PySem.W.kitAny K (.ref A_TooGreat) ([A_NoTree, A_NoPlace, A_NoNumber, A_NoName, A_NoLine, A_NothingDone, A_NothingHeld].map Value.ref) = some false)
    (w_TooGreat_VE : PySem.W.kitOne K (.ref A_TooGreat) (.type "ValueError") = some true)
    (u_TrunkError_TrunkError : (mroK K A_TrunkError).contains (.ref A_TrunkError) = true)
    (u_NoStatement_TrunkError : (mroK K A_NoStatement).contains (.ref A_TrunkError) = true)
    (u_TooGreat_TrunkError : (mroK K A_TooGreat).contains (.ref A_TrunkError) = true)
    (z_ValueError : PySem.W.nsIn K mainGlobals "ValueError" = some none)
    (z_bool : PySem.W.nsIn K mainGlobals "bool" = some none)
    (z_int : PySem.W.nsIn K mainGlobals "int" = some none)
    (z_isinstance : PySem.W.nsIn K mainGlobals "isinstance" = some none)
    (z_len : PySem.W.nsIn K mainGlobals "len" = some none)
    (z_range : PySem.W.nsIn K mainGlobals "range" = some none)
    (z_str : PySem.W.nsIn K mainGlobals "str" = some none)
    (z_tuple : PySem.W.nsIn K mainGlobals "tuple" = some none)
    (a_ALL_LETTERS : PySem.W.nsIn K mainGlobals "ALL_LETTERS" = some (some (.str "ABCDEFGHIJKLMNOPQRSTUVWXYZabcdefghijklmnopqrstuvwxyz" q_ALL_LETTERS)))
    (a_TWO_LETTERED : PySem.W.nsIn K mainGlobals "TWO_LETTERED" = some (some (.ref A_TWO_LETTERED)))
    (l_TWO_LETTERED : K.lookup A_TWO_LETTERED = some ⟨.type "tuple", od_TWO_LETTERED, .seq #[.str "in" q_TWO_LETTERED_0, .str "left" q_TWO_LETTERED_1, .str "right" q_TWO_LETTERED_2, .str "below" q_TWO_LETTERED_3] nn_TWO_LETTERED, sl_TWO_LETTERED⟩)
    (a_JOINING : PySem.W.nsIn K mainGlobals "JOINING" = some (some (.ref A_JOINING)))
    (l_JOINING : K.lookup A_JOINING = some ⟨.type "tuple", od_JOINING, .seq #[.str "and" q_JOINING_0, .str "or" q_JOINING_1] nn_JOINING, sl_JOINING⟩)
    (a_BINDING : PySem.W.nsIn K mainGlobals "BINDING" = some (some (.ref A_BINDING)))
    (l_BINDING : K.lookup A_BINDING = some ⟨.type "tuple", od_BINDING, .seq #[.str "some" q_BINDING_0, .str "all" q_BINDING_1] nn_BINDING, sl_BINDING⟩)
    (a_MOST_SIGNS : PySem.W.nsIn K mainGlobals "MOST_SIGNS" = some (some (.int 300 q_MOST_SIGNS)))
    (a_MOST_PARTS : PySem.W.nsIn K mainGlobals "MOST_PARTS" = some (some (.int 30 q_MOST_PARTS))) :
    ∃ fd : FuncData, (∀ (s : Shared) (v : Value), BindsTo s fd ⟨[v], []⟩ [("_law_script", v)]) ∧ ∀ base : Heap, K.In base → base.Ns mainGlobals mg → FnOk l.prog w K mg base (CX1 l.prog w) 305 fa fd p_law (spW K mg 1 f_law) := by
  have e := hfa.symm.trans (PySem.W.mg_of X G a_law)
  cases e
  have F_is_letter := fun_mk (st := s_is_letter) l_is_letter cd_is_letter_ok k_is_letter
  have m_is_letter := PySem.W.mg_of X G a_is_letter
  have F_is_plain := fun_mk (st := s_is_plain) l_is_plain cd_is_plain_ok k_is_plain
  have m_is_plain := PySem.W.mg_of X G a_is_plain
  have F_inner_of := fun_mk (st := s_inner_of) l_inner_of cd_inner_of_ok k_inner_of
  have m_inner_of := PySem.W.mg_of X G a_inner_of
  have F_parts_many := fun_mk (st := s_parts_many) l_parts_many cd_parts_many_ok k_parts_many
  have m_parts_many := PySem.W.mg_of X G a_parts_many
  have F_is_said := fun_mk (st := s_is_said) l_is_said cd_is_said_ok k_is_said
  have m_is_said := PySem.W.mg_of X G a_is_said
  have F_is_lettered := fun_mk (st := s_is_lettered) l_is_lettered cd_is_lettered_ok k_is_lettered
  have m_is_lettered := PySem.W.mg_of X G a_is_lettered
  have F_plain_end := fun_mk (st := s_plain_end) l_plain_end cd_plain_end_ok k_plain_end
  have m_plain_end := PySem.W.mg_of X G a_plain_end
  have F_front_end := fun_mk (st := s_front_end) l_front_end cd_front_end_ok k_front_end
  have m_front_end := PySem.W.mg_of X G a_front_end
  have F_bracket_end := fun_mk (st := s_bracket_end) l_bracket_end cd_bracket_end_ok k_bracket_end
  have m_bracket_end := PySem.W.mg_of X G a_bracket_end
  have F_end_of := fun_mk (st := s_end_of) l_end_of cd_end_of_ok k_end_of
  have m_end_of := PySem.W.mg_of X G a_end_of
  have F_words_many := fun_mk (st := s_words_many) l_words_many cd_words_many_ok k_words_many
  have m_words_many := PySem.W.mg_of X G a_words_many
  have F_read_words := fun_mk (st := s_read_words) l_read_words cd_read_words_ok k_read_words
  have m_read_words := PySem.W.mg_of X G a_read_words
  have F_read_statement := fun_mk (st := s_read_statement) l_read_statement cd_read_statement_ok k_read_statement
  have m_read_statement := PySem.W.mg_of X G a_read_statement
  have F__law_cell := fun_mk (st := s__law_cell) l__law_cell cd__law_cell_ok k__law_cell
  have m__law_cell := PySem.W.mg_of X G a__law_cell
  have F__law_mixed := fun_mk (st := s__law_mixed) l__law_mixed cd__law_mixed_ok k__law_mixed
  have m__law_mixed := PySem.W.mg_of X G a__law_mixed
  have F__law_draws := fun_mk (st := s__law_draws) l__law_draws cd__law_draws_ok k__law_draws
  have m__law_draws := PySem.W.mg_of X G a__law_draws
  have F__law_pool := fun_mk (st := s__law_pool) l__law_pool cd__law_pool_ok k__law_pool
  have m__law_pool := PySem.W.mg_of X G a__law_pool
  have F__law_built := fun_mk (st := s__law_built) l__law_built cd__law_built_ok k__law_built
  have m__law_built := PySem.W.mg_of X G a__law_built
  have F__law_one_of := fun_mk (st := s__law_one_of) l__law_one_of cd__law_one_of_ok k__law_one_of
  have m__law_one_of := PySem.W.mg_of X G a__law_one_of
  have F__law_written := fun_mk (st := s__law_written) l__law_written cd__law_written_ok k__law_written
  have m__law_written := PySem.W.mg_of X G a__law_written
  have F__law_letter_at := fun_mk (st := s__law_letter_at) l__law_letter_at cd__law_letter_at_ok k__law_letter_at
  have m__law_letter_at := PySem.W.mg_of X G a__law_letter_at
  have F__law_parsed := fun_mk (st := s__law_parsed) l__law_parsed cd__law_parsed_ok k__law_parsed
  have m__law_parsed := PySem.W.mg_of X G a__law_parsed
  have F__law_joint := fun_mk (st := s__law_joint) l__law_joint cd__law_joint_ok k__law_joint
  have m__law_joint := PySem.W.mg_of X G a__law_joint
  have F__law_parts := fun_mk (st := s__law_parts) l__law_parts cd__law_parts_ok k__law_parts
  have m__law_parts := PySem.W.mg_of X G a__law_parts
  have F__law_spoilt := fun_mk (st := s__law_spoilt) l__law_spoilt cd__law_spoilt_ok k__law_spoilt
  have m__law_spoilt := PySem.W.mg_of X G a__law_spoilt
  have F__law_text_of := fun_mk (st := s__law_text_of) l__law_text_of cd__law_text_of_ok k__law_text_of
  have m__law_text_of := PySem.W.mg_of X G a__law_text_of
  have F__law_read := fun_mk (st := s__law_read) l__law_read cd__law_read_ok k__law_read
  have m__law_read := PySem.W.mg_of X G a__law_read
  have F__law_same := fun_mk (st := s__law_same) l__law_same cd__law_same_ok k__law_same
  have m__law_same := PySem.W.mg_of X G a__law_same
  have F__law_due := fun_mk (st := s__law_due) l__law_due cd__law_due_ok k__law_due
  have m__law_due := PySem.W.mg_of X G a__law_due
  have F_law := fun_mk (st := s_law) l_law cd_law_ok k_law
  have m_law := PySem.W.mg_of X G a_law
  have B : Bl mg := ⟨PySem.W.mg_none_of X G z_ValueError, PySem.W.mg_none_of X G z_bool, PySem.W.mg_none_of X G z_int, PySem.W.mg_none_of X G z_isinstance, PySem.W.mg_none_of X G z_len, PySem.W.mg_none_of X G z_range, PySem.W.mg_none_of X G z_str, PySem.W.mg_none_of X G z_tuple⟩
  have C : Cls K mg := ⟨⟨A_TrunkError, PySem.W.mg_of X G a_TrunkError, x_TrunkError⟩, ⟨A_NoStatement, PySem.W.mg_of X G a_NoStatement, x_NoStatement⟩, ⟨A_TooGreat, PySem.W.mg_of X G a_TooGreat, x_TooGreat⟩, ⟨A_NoStatement, PySem.W.mg_of X G a_NoStatement, ⟨fun c b hb => by by_cases e0 : c = "TrunkError"; (· subst e0; rw [show ti_NoStatement "TrunkError" = some false from by decide +kernel] at hb; cases hb; exact ⟨A_TrunkError, PySem.W.mg_of X G a_TrunkError, x_TrunkError, ⟨g1_TrunkError, g2_TrunkError, g3_TrunkError⟩, w_TrunkError_NoStatement⟩); by_cases e1 : c = "NoStatement"; (· subst e1; rw [show ti_NoStatement "NoStatement" = some true from by decide +kernel] at hb; cases hb; exact ⟨A_NoStatement, PySem.W.mg_of X G a_NoStatement, x_NoStatement, ⟨g1_NoStatement, g2_NoStatement, g3_NoStatement⟩, w_NoStatement_NoStatement⟩); by_cases e2 : c = "TooGreat"; (· subst e2; rw [show ti_NoStatement "TooGreat" = some false from by decide +kernel] at hb; cases hb; exact ⟨A_TooGreat, PySem.W.mg_of X G a_TooGreat, x_TooGreat, ⟨g1_TooGreat, g2_TooGreat, g3_TooGreat⟩, w_TooGreat_NoStatement⟩); simp only [ti_NoStatement, e0, e1, e2, if_false, reduceCtorEq] at hb⟩⟩, ⟨A_TooGreat, PySem.W.mg_of X G a_TooGreat, ⟨fun c b hb => by by_cases e0 : c = "TrunkError"; (· subst e0; rw [show ti_TooGreat "TrunkError" = some false from by decide +kernel] at hb; cases hb; exact ⟨A_TrunkError, PySem.W.mg_of X G a_TrunkError, x_TrunkError, ⟨g1_TrunkError, g2_TrunkError, g3_TrunkError⟩, w_TrunkError_TooGreat⟩); by_cases e1 : c = "NoStatement"; (· subst e1; rw [show ti_TooGreat "NoStatement" = some false from by decide +kernel] at hb; cases hb; exact ⟨A_NoStatement, PySem.W.mg_of X G a_NoStatement, x_NoStatement, ⟨g1_NoStatement, g2_NoStatement, g3_NoStatement⟩, w_NoStatement_TooGreat⟩); by_cases e2 : c = "TooGreat"; (· subst e2; rw [show ti_TooGreat "TooGreat" = some true from by decide +kernel] at hb; cases hb; exact ⟨A_TooGreat, PySem.W.mg_of X G a_TooGreat, x_TooGreat, ⟨g1_TooGreat, g2_TooGreat, g3_TooGreat⟩, w_TooGreat_TooGreat⟩); simp only [ti_TooGreat, e0, e1, e2, if_false, reduceCtorEq] at hb⟩⟩, ⟨A_NoTree, A_NoPlace, A_NoNumber, A_NoName, A_NoLine, A_NothingDone, A_NothingHeld, PySem.W.mg_of X G a_NoTree, PySem.W.mg_of X G a_NoPlace, PySem.W.mg_of X G a_NoNumber, PySem.W.mg_of X G a_NoName, PySem.W.mg_of X G a_NoLine, PySem.W.mg_of X G a_NothingDone, PySem.W.mg_of X G a_NothingHeld, ⟨fun c b hb => by by_cases e0 : c = "TrunkError"; (· subst e0; rw [show ti_t0 "TrunkError" = some false from by decide +kernel] at hb; cases hb; exact ⟨A_TrunkError, PySem.W.mg_of X G a_TrunkError, x_TrunkError, ⟨g1_TrunkError, g2_TrunkError, g3_TrunkError⟩, w_TrunkError_t0⟩); by_cases e1 : c = "NoStatement"; (· subst e1; rw [show ti_t0 "NoStatement" = some false from by decide +kernel] at hb; cases hb; exact ⟨A_NoStatement, PySem.W.mg_of X G a_NoStatement, x_NoStatement, ⟨g1_NoStatement, g2_NoStatement, g3_NoStatement⟩, w_NoStatement_t0⟩); by_cases e2 : c = "TooGreat"; (· subst e2; rw [show ti_t0 "TooGreat" = some false from by decide +kernel] at hb; cases hb; exact ⟨A_TooGreat, PySem.W.mg_of X G a_TooGreat, x_TooGreat, ⟨g1_TooGreat, g2_TooGreat, g3_TooGreat⟩, w_TooGreat_t0⟩); simp only [ti_t0, e0, e1, e2, if_false, reduceCtorEq] at hb⟩⟩, ⟨fun c b hb => by by_cases e0 : c = "TrunkError"; (· subst e0; rw [show ti_ValueError "TrunkError" = some true from by decide +kernel] at hb; cases hb; exact ⟨A_TrunkError, PySem.W.mg_of X G a_TrunkError, x_TrunkError, ⟨g1_TrunkError, g2_TrunkError, g3_TrunkError⟩, w_TrunkError_VE⟩); by_cases e1 : c = "NoStatement"; (· subst e1; rw [show ti_ValueError "NoStatement" = some true from by decide +kernel] at hb; cases hb; exact ⟨A_NoStatement, PySem.W.mg_of X G a_NoStatement, x_NoStatement, ⟨g1_NoStatement, g2_NoStatement, g3_NoStatement⟩, w_NoStatement_VE⟩); by_cases e2 : c = "TooGreat"; (· subst e2; rw [show ti_ValueError "TooGreat" = some true from by decide +kernel] at hb; cases hb; exact ⟨A_TooGreat, PySem.W.mg_of X G a_TooGreat, x_TooGreat, ⟨g1_TooGreat, g2_TooGreat, g3_TooGreat⟩, w_TooGreat_VE⟩); simp only [ti_ValueError, e0, e1, e2, if_false, reduceCtorEq] at hb⟩, ⟨fun c hc => by simp only [List.mem_cons, List.not_mem_nil, or_false] at hc; rcases hc with rfl | rfl | rfl; (· exact ⟨A_TrunkError, A_TrunkError, PySem.W.mg_of X G a_TrunkError, PySem.W.mg_of X G a_TrunkError, x_TrunkError, x_TrunkError, u_TrunkError_TrunkError⟩); (· exact ⟨A_NoStatement, A_TrunkError, PySem.W.mg_of X G a_NoStatement, PySem.W.mg_of X G a_TrunkError, x_NoStatement, x_TrunkError, u_NoStatement_TrunkError⟩); (· exact ⟨A_TooGreat, A_TrunkError, PySem.W.mg_of X G a_TooGreat, PySem.W.mg_of X G a_TrunkError, x_TooGreat, x_TrunkError, u_TooGreat_TrunkError⟩)⟩⟩
  have Gg : Gc K mg := ⟨⟨_, .str (tx [65, 66, 67, 68, 69, 70, 71, 72, 73, 74, 75, 76, 77, 78, 79, 80, 81, 82, 83, 84, 85, 86, 87, 88, 89, 90, 97, 98, 99, 100, 101, 102, 103, 104, 105, 106, 107, 108, 109, 110, 111, 112, 113, 114, 115, 116, 117, 118, 119, 120, 121, 122]), PySem.W.mg_of X G a_ALL_LETTERS, ⟨_, by rw [show Str.ofString "ABCDEFGHIJKLMNOPQRSTUVWXYZabcdefghijklmnopqrstuvwxyz" = tx [65, 66, 67, 68, 69, 70, 71, 72, 73, 74, 75, 76, 77, 78, 79, 80, 81, 82, 83, 84, 85, 86, 87, 88, 89, 90, 97, 98, 99, 100, 101, 102, 103, 104, 105, 106, 107, 108, 109, 110, 111, 112, 113, 114, 115, 116, 117, 118, 119, 120, 121, 122] from by decide +kernel]⟩, fun μ H => .str⟩, ⟨_, .ref A_TWO_LETTERED, PySem.W.mg_of X G a_TWO_LETTERED, rfl, fun μ H => .tupI (vs := [V.str (tx [105, 110]), V.str (tx [108, 101, 102, 116]), V.str (tx [114, 105, 103, 104, 116]), V.str (tx [98, 101, 108, 111, 119])]) (.inr ⟨_, _, _, l_TWO_LETTERED, rfl, rfl, by show 4 ≤ sizeLine; decide, .cons ⟨_, by rw [show Str.ofString "in" = tx [105, 110] from by decide +kernel]⟩ (.cons ⟨_, by rw [show Str.ofString "left" = tx [108, 101, 102, 116] from by decide +kernel]⟩ (.cons ⟨_, by rw [show Str.ofString "right" = tx [114, 105, 103, 104, 116] from by decide +kernel]⟩ (.cons ⟨_, by rw [show Str.ofString "below" = tx [98, 101, 108, 111, 119] from by decide +kernel]⟩ (.nil))))⟩) (.consI .str (.consI .str (.consI .str (.consI .str (.nilI)))))⟩, ⟨_, .ref A_JOINING, PySem.W.mg_of X G a_JOINING, rfl, fun μ H => .tupI (vs := [V.str (tx [97, 110, 100]), V.str (tx [111, 114])]) (.inr ⟨_, _, _, l_JOINING, rfl, rfl, by show 2 ≤ sizeLine; decide, .cons ⟨_, by rw [show Str.ofString "and" = tx [97, 110, 100] from by decide +kernel]⟩ (.cons ⟨_, by rw [show Str.ofString "or" = tx [111, 114] from by decide +kernel]⟩ (.nil))⟩) (.consI .str (.consI .str (.nilI)))⟩, ⟨_, .ref A_BINDING, PySem.W.mg_of X G a_BINDING, rfl, fun μ H => .tupI (vs := [V.str (tx [115, 111, 109, 101]), V.str (tx [97, 108, 108])]) (.inr ⟨_, _, _, l_BINDING, rfl, rfl, by show 2 ≤ sizeLine; decide, .cons ⟨_, by rw [show Str.ofString "some" = tx [115, 111, 109, 101] from by decide +kernel]⟩ (.cons ⟨_, by rw [show Str.ofString "all" = tx [97, 108, 108] from by decide +kernel]⟩ (.nil))⟩) (.consI .str (.consI .str (.nilI)))⟩, ⟨_, .int 300, PySem.W.mg_of X G a_MOST_SIGNS, ⟨_, rfl⟩, fun μ H => .int⟩, ⟨_, .int 30, PySem.W.mg_of X G a_MOST_PARTS, ⟨_, rfl⟩, fun μ H => .int⟩⟩
  refine ⟨PySem.W.fnOf "law" "law" (defArgs s_law) (defBody s_law) (defScope s_law) .none kV_law dc_law pm_law an_law cd_law ct_law, fun s v => .of_eq rfl, fun base _ _ => ?_⟩
  have h_is_letter : HasW l.prog w K mg base 1 "is_letter" 1 f_is_letter := hasW_mk (ps := p_is_letter) F_is_letter m_is_letter rfl (fun _ _ _ _ _ _ us hl => match us, hl with | [_], _ => rfl) (ok_is_letter F_is_letter B Gg )
  have h_is_plain : HasW l.prog w K mg base 1 "is_plain" 1 f_is_plain := hasW_mk (ps := p_is_plain) F_is_plain m_is_plain rfl (fun _ _ _ _ _ _ us hl => match us, hl with | [_], _ => rfl) (ok_is_plain F_is_plain Gg )
  have h_inner_of : HasW l.prog w K mg base 2 "inner_of" 1 f_inner_of := hasW_mk (ps := p_inner_of) F_inner_of m_inner_of rfl (fun _ _ _ _ _ _ us hl => match us, hl with | [_], _ => rfl) (ok_inner_of F_inner_of Gg h_is_plain)
  have h_parts_many : HasW l.prog w K mg base 3 "parts_many" 1 f_parts_many := hasW_mk (ps := p_parts_many) F_parts_many m_parts_many rfl (fun _ _ _ _ _ _ us hl => match us, hl with | [_], _ => rfl) (ok_parts_many F_parts_many B h_inner_of)
  have h_is_said : HasW l.prog w K mg base 1 "is_said" 1 f_is_said := hasW_mk (ps := p_is_said) F_is_said m_is_said rfl (fun _ _ _ _ _ _ us hl => match us, hl with | [_], _ => rfl) (ok_is_said F_is_said B )
  have h_is_lettered : HasW l.prog w K mg base 2 "is_lettered" 1 f_is_lettered := hasW_mk (ps := p_is_lettered) F_is_lettered m_is_lettered rfl (fun _ _ _ _ _ _ us hl => match us, hl with | [_], _ => rfl) (ok_is_lettered F_is_lettered  h_is_letter h_is_said)
  have h_plain_end : HasW l.prog w K mg base 3 "plain_end" 1 f_plain_end := hasW_mk (ps := p_plain_end) F_plain_end m_plain_end rfl (fun _ _ _ _ _ _ us hl => match us, hl with | [_], _ => rfl) (ok_plain_end F_plain_end B Gg h_is_lettered)
  have h_front_end : HasW l.prog w K mg base 3 "front_end" 1 f_front_end := hasW_mk (ps := p_front_end) F_front_end m_front_end rfl (fun _ _ _ _ _ _ us hl => match us, hl with | [_], _ => rfl) (ok_front_end F_front_end B Gg h_is_lettered h_is_said)
  have h_bracket_end : HasW l.prog w K mg base 2 "bracket_end" 1 f_bracket_end := hasW_mk (ps := p_bracket_end) F_bracket_end m_bracket_end rfl (fun _ _ _ _ _ _ us hl => match us, hl with | [_], _ => rfl) (ok_bracket_end F_bracket_end B Gg h_is_said)
  have h_end_of : HasW l.prog w K mg base 4 "end_of" 1 f_end_of := hasW_mk (ps := p_end_of) F_end_of m_end_of rfl (fun _ _ _ _ _ _ us hl => match us, hl with | [_], _ => rfl) (ok_end_of F_end_of  h_bracket_end h_front_end h_plain_end)
  have h_words_many : HasW l.prog w K mg base 1 "words_many" 1 f_words_many := hasW_mk (ps := p_words_many) F_words_many m_words_many rfl (fun _ _ _ _ _ _ us hl => match us, hl with | [_], _ => rfl) (ok_words_many F_words_many B Gg )
  have h_read_words : HasW l.prog w K mg base 5 "read_words" 1 f_read_words := hasW_mk (ps := p_read_words) F_read_words m_read_words rfl (fun _ _ _ _ _ _ us hl => match us, hl with | [_], _ => rfl) (ok_read_words F_read_words B C h_end_of h_is_said h_words_many)
  have h_read_statement : HasW l.prog w K mg base 6 "read_statement" 1 f_read_statement := hasW_mk (ps := p_read_statement) F_read_statement m_read_statement rfl (fun _ _ _ _ _ _ us hl => match us, hl with | [_], _ => rfl) (ok_read_statement F_read_statement B Gg C h_parts_many h_read_words)
  have h__law_cell : HasW l.prog w K mg base 1 "_law_cell" 2 f__law_cell := hasW_mk (ps := p__law_cell) F__law_cell m__law_cell rfl (fun _ _ _ _ _ _ us hl => match us, hl with | [_, _], _ => rfl) (ok__law_cell F__law_cell B )
  have h__law_mixed : HasW l.prog w K mg base 1 "_law_mixed" 3 f__law_mixed := hasW_mk (ps := p__law_mixed) F__law_mixed m__law_mixed rfl (fun _ _ _ _ _ _ us hl => match us, hl with | [_, _, _], _ => rfl) (ok__law_mixed F__law_mixed  )
  have h__law_draws : HasW l.prog w K mg base 2 "_law_draws" 3 f__law_draws := hasW_mk (ps := p__law_draws) F__law_draws m__law_draws rfl (fun _ _ _ _ _ _ us hl => match us, hl with | [_, _, _], _ => rfl) (ok__law_draws F__law_draws B h__law_mixed)
  have h__law_pool : HasW l.prog w K mg base 3 "_law_pool" 3 f__law_pool := hasW_mk (ps := p__law_pool) F__law_pool m__law_pool rfl (fun _ _ _ _ _ _ us hl => match us, hl with | [_, _, _], _ => rfl) (ok__law_pool F__law_pool B h__law_draws)
  have h__law_built : HasW l.prog w K mg base 1 "_law_built" 3 f__law_built := hasW_mk (ps := p__law_built) F__law_built m__law_built rfl (fun _ _ _ _ _ _ us hl => match us, hl with | [_, _, _], _ => rfl) (ok__law_built F__law_built B )
  have h__law_one_of : HasW l.prog w K mg base 4 "_law_one_of" 2 f__law_one_of := hasW_mk (ps := p__law_one_of) F__law_one_of m__law_one_of rfl (fun _ _ _ _ _ _ us hl => match us, hl with | [_, _], _ => rfl) (ok__law_one_of F__law_one_of  h__law_built h__law_cell h__law_draws h__law_pool)
  have h__law_written := has__law_written (P := l.prog) (w := w) (base := base) F__law_written m__law_written   40
  have h__law_letter_at : HasW l.prog w K mg base 1 "_law_letter_at" 2 f__law_letter_at := hasW_mk (ps := p__law_letter_at) F__law_letter_at m__law_letter_at rfl (fun _ _ _ _ _ _ us hl => match us, hl with | [_, _], _ => rfl) (ok__law_letter_at F__law_letter_at B )
  obtain ⟨h__law_joint, h__law_parsed⟩ := has__law_joint__law_parsed (P := l.prog) (w := w) (base := base) F__law_joint m__law_joint F__law_parsed m__law_parsed B h__law_letter_at 302
  have h__law_parts := has__law_parts (P := l.prog) (w := w) (base := base) F__law_parts m__law_parts B  90
  have h__law_spoilt : HasW l.prog w K mg base 1 "_law_spoilt" 2 f__law_spoilt := hasW_mk (ps := p__law_spoilt) F__law_spoilt m__law_spoilt rfl (fun _ _ _ _ _ _ us hl => match us, hl with | [_, _], _ => rfl) (ok__law_spoilt F__law_spoilt B )
  have h__law_text_of : HasW l.prog w K mg base 41 "_law_text_of" 2 f__law_text_of := hasW_mk (ps := p__law_text_of) F__law_text_of m__law_text_of rfl (fun _ _ _ _ _ _ us hl => match us, hl with | [_, _], _ => rfl) (ok__law_text_of F__law_text_of B h__law_cell h__law_draws h__law_one_of h__law_spoilt h__law_written)
  have h__law_read : HasW l.prog w K mg base 7 "_law_read" 1 f__law_read := hasW_mk (ps := p__law_read) F__law_read m__law_read rfl (fun _ _ _ _ _ _ us hl => match us, hl with | [_], _ => rfl) (ok__law_read F__law_read B C h_read_statement)
  have h__law_same := has__law_same (P := l.prog) (w := w) (base := base) F__law_same m__law_same B  90
  have h__law_due : HasW l.prog w K mg base 304 "_law_due" 1 f__law_due := hasW_mk (ps := p__law_due) F__law_due m__law_due rfl (fun _ _ _ _ _ _ us hl => match us, hl with | [_], _ => rfl) (ok__law_due F__law_due B h__law_parsed h__law_parts)
  exact ok_law F_law  h__law_due h__law_read h__law_same h__law_text_of
end P
def PySem.W.Fast.tw18394814716208043645 : Unit := ()
def PySem.W.Fast.tw6336017026992789629 : Unit := ()
def PySem.W.Fast.tw5924539859200165980 : Unit := ()
def PySem.W.Fast.tw14585616622857863803 : Unit := ()
def PySem.W.Fast.tw3782510663482363451 : Unit := ()
def PySem.W.Fast.tw15009947312525058938 : Unit := ()
def PySem.W.Fast.tw10907237347924913978 : Unit := ()
def PySem.W.Fast.tw5239030467252168151 : Unit := ()
def PySem.W.Fast.tw10109659182032942934 : Unit := ()
def PySem.W.Fast.tw3541069308217437910 : Unit := ()
def PySem.W.Fast.tw4173623952166610770 : Unit := ()
def PySem.W.Fast.tw11991547908604309297 : Unit := ()
def PySem.W.Fast.tw12150934274261179087 : Unit := ()
def PySem.W.Fast.tw5081662831201017710 : Unit := ()
def PySem.W.Fast.tw10649234930979708268 : Unit := ()
def PySem.W.Fast.tw7608856844836361388 : Unit := ()
def PySem.W.Fast.tw9382937416999705225 : Unit := ()
def PySem.W.Fast.tw7337673698116452905 : Unit := ()
def PySem.W.Fast.tw13574716759565621769 : Unit := ()
def PySem.W.Fast.tw10086839246764198953 : Unit := ()
def PySem.W.Fast.tw9786417800436874024 : Unit := ()
def PySem.W.Fast.tw14644578544244410024 : Unit := ()
def PySem.W.Fast.tw18356450197846746504 : Unit := ()
def PySem.W.Fast.tw5267401042738005923 : Unit := ()
def PySem.W.Fast.tw11931361552949069635 : Unit := ()
def PySem.W.Fast.tw10200547170905003075 : Unit := ()
def PySem.W.Fast.tw2594562015179506946 : Unit := ()
def PySem.W.Fast.tw10980112653148032577 : Unit := ()
def PySem.W.Fast.tw4943958550444640737 : Unit := ()
def PySem.W.Fast.tw11189459316680454529 : Unit := ()
def PySem.W.Fast.tw8911095624027064417 : Unit := ()
def PySem.W.Fast.tw3512657931984226893 : Unit := ()
open PySem PySem.W PyProof.Rows
set_option maxRecDepth 100000 in
set_option maxHeartbeats 0 in
theorem PySem.Challenge.cw_trunksay_k13_statement_texts_refused_holds : PySem.Challenge.rw_trunksay_k13_statement_texts_refused.Holds := by
  w_on; o_law; k_head; (case hw => w_witness2)
  k_fill
  refine L2.walkW (l := PySem.Challenge.rw_trunksay_k13_statement_texts_refused) (k := 305) (x := "_law_script") (G := P.f_law) rfl rfl ⟨rfl, by decide, by decide⟩ (fun w h Y => PySem.W.kIn_of Y) ?F P.law_ok
  case F =>
    intro w mg fa h KX G hmg
    refine' P.all_mk KX G hmg ?a_is_letter ?l_is_letter ?cd_is_letter_ok ?k_is_letter ?a_is_plain ?l_is_plain ?cd_is_plain_ok ?k_is_plain ?a_inner_of ?l_inner_of ?cd_inner_of_ok ?k_inner_of ?a_parts_many ?l_parts_many ?cd_parts_many_ok ?k_parts_many ?a_is_said ?l_is_said ?cd_is_said_ok ?k_is_said ?a_is_lettered ?l_is_lettered ?cd_is_lettered_ok ?k_is_lettered ?a_plain_end ?l_plain_end ?cd_plain_end_ok ?k_plain_end ?a_front_end ?l_front_end ?cd_front_end_ok ?k_front_end ?a_bracket_end ?l_bracket_end ?cd_bracket_end_ok ?k_bracket_end ?a_end_of ?l_end_of ?cd_end_of_ok ?k_end_of ?a_words_many ?l_words_many ?cd_words_many_ok ?k_words_many ?a_read_words ?l_read_words ?cd_read_words_ok ?k_read_words ?a_read_statement ?l_read_statement ?cd_read_statement_ok ?k_read_statement ?a__law_cell ?l__law_cell ?cd__law_cell_ok ?k__law_cell ?a__law_mixed ?l__law_mixed ?cd__law_mixed_ok ?k__law_mixed ?a__law_draws ?l__law_draws ?cd__law_draws_ok ?k__law_draws ?a__law_pool ?l__law_pool ?cd__law_pool_ok ?k__law_pool ?a__law_built ?l__law_built ?cd__law_built_ok ?k__law_built ?a__law_one_of ?l__law_one_of ?cd__law_one_of_ok ?k__law_one_of ?a__law_written ?l__law_written ?cd__law_written_ok ?k__law_written ?a__law_letter_at ?l__law_letter_at ?cd__law_letter_at_ok ?k__law_letter_at ?a__law_parsed ?l__law_parsed ?cd__law_parsed_ok ?k__law_parsed ?a__law_joint ?l__law_joint ?cd__law_joint_ok ?k__law_joint ?a__law_parts ?l__law_parts ?cd__law_parts_ok ?k__law_parts ?a__law_spoilt ?l__law_spoilt ?cd__law_spoilt_ok ?k__law_spoilt ?a__law_text_of ?l__law_text_of ?cd__law_text_of_ok ?k__law_text_of ?a__law_read ?l__law_read ?cd__law_read_ok ?k__law_read ?a__law_same ?l__law_same ?cd__law_same_ok ?k__law_same ?a__law_due ?l__law_due ?cd__law_due_ok ?k__law_due ?a_law ?l_law ?cd_law_ok ?k_law ?a_TrunkError ?a_NoTree ?a_NoStatement ?a_NoPlace ?a_NoNumber ?a_TooGreat ?a_NoName ?a_NoLine ?a_NothingDone ?a_NothingHeld ?x_TrunkError ?g1_TrunkError ?g2_TrunkError ?g3_TrunkError ?w_TrunkError_NoStatement ?w_TrunkError_TooGreat ?w_TrunkError_t0 ?w_TrunkError_VE ?x_NoStatement ?g1_NoStatement ?g2_NoStatement ?g3_NoStatement ?w_NoStatement_NoStatement ?w_NoStatement_TooGreat ?w_NoStatement_t0 ?w_NoStatement_VE ?x_TooGreat ?g1_TooGreat ?g2_TooGreat ?g3_TooGreat ?w_TooGreat_NoStatement ?w_TooGreat_TooGreat ?w_TooGreat_t0 ?w_TooGreat_VE ?u_TrunkError_TrunkError ?u_NoStatement_TrunkError ?u_TooGreat_TrunkError ?z_ValueError ?z_bool ?z_int ?z_isinstance ?z_len ?z_range ?z_str ?z_tuple ?a_ALL_LETTERS ?a_TWO_LETTERED ?l_TWO_LETTERED ?a_JOINING ?l_JOINING ?a_BINDING ?l_BINDING ?a_MOST_SIGNS ?a_MOST_PARTS
    (case a_is_letter => k_is)
    (case l_is_letter => k_is)
    (case cd_is_letter_ok => k_is)
    (case k_is_letter => k_is)
    (case a_is_plain => k_is)
    (case l_is_plain => k_is)
    (case cd_is_plain_ok => k_is)
    (case k_is_plain => k_is)
    (case a_inner_of => k_is)
    (case l_inner_of => k_is)
    (case cd_inner_of_ok => k_is)
    (case k_inner_of => k_is)
    (case a_parts_many => k_is)
    (case l_parts_many => k_is)
    (case cd_parts_many_ok => k_is)
    (case k_parts_many => k_is)
    (case a_is_said => k_is)
    (case l_is_said => k_is)
    (case cd_is_said_ok => k_is)
    (case k_is_said => k_is)
    (case a_is_lettered => k_is)
    (case l_is_lettered => k_is)
    (case cd_is_lettered_ok => k_is)
    (case k_is_lettered => k_is)
    (case a_plain_end => k_is)
    (case l_plain_end => k_is)
    (case cd_plain_end_ok => k_is)
    (case k_plain_end => k_is)
    (case a_front_end => k_is)
    (case l_front_end => k_is)
    (case cd_front_end_ok => k_is)
    (case k_front_end => k_is)
    (case a_bracket_end => k_is)
    (case l_bracket_end => k_is)
    (case cd_bracket_end_ok => k_is)
    (case k_bracket_end => k_is)
    (case a_end_of => k_is)
    (case l_end_of => k_is)
    (case cd_end_of_ok => k_is)
    (case k_end_of => k_is)
    (case a_words_many => k_is)
    (case l_words_many => k_is)
    (case cd_words_many_ok => k_is)
    (case k_words_many => k_is)
    (case a_read_words => k_is)
    (case l_read_words => k_is)
    (case cd_read_words_ok => k_is)
    (case k_read_words => k_is)
    (case a_read_statement => k_is)
    (case l_read_statement => k_is)
    (case cd_read_statement_ok => k_is)
    (case k_read_statement => k_is)
    (case a__law_cell => k_is)
    (case l__law_cell => k_is)
    (case cd__law_cell_ok => k_is)
    (case k__law_cell => k_is)
    (case a__law_mixed => k_is)
    (case l__law_mixed => k_is)
    (case cd__law_mixed_ok => k_is)
    (case k__law_mixed => k_is)
    (case a__law_draws => k_is)
    (case l__law_draws => k_is)
    (case cd__law_draws_ok => k_is)
    (case k__law_draws => k_is)
    (case a__law_pool => k_is)
    (case l__law_pool => k_is)
    (case cd__law_pool_ok => k_is)
    (case k__law_pool => k_is)
    (case a__law_built => k_is)
    (case l__law_built => k_is)
    (case cd__law_built_ok => k_is)
    (case k__law_built => k_is)
    (case a__law_one_of => k_is)
    (case l__law_one_of => k_is)
    (case cd__law_one_of_ok => k_is)
    (case k__law_one_of => k_is)
    (case a__law_written => k_is)
    (case l__law_written => k_is)
    (case cd__law_written_ok => k_is)
    (case k__law_written => k_is)
    (case a__law_letter_at => k_is)
    (case l__law_letter_at => k_is)
    (case cd__law_letter_at_ok => k_is)
    (case k__law_letter_at => k_is)
    (case a__law_parsed => k_is)
    (case l__law_parsed => k_is)
    (case cd__law_parsed_ok => k_is)
    (case k__law_parsed => k_is)
    (case a__law_joint => k_is)
    (case l__law_joint => k_is)
    (case cd__law_joint_ok => k_is)
    (case k__law_joint => k_is)
    (case a__law_parts => k_is)
    (case l__law_parts => k_is)
    (case cd__law_parts_ok => k_is)
    (case k__law_parts => k_is)
    (case a__law_spoilt => k_is)
    (case l__law_spoilt => k_is)
    (case cd__law_spoilt_ok => k_is)
    (case k__law_spoilt => k_is)
    (case a__law_text_of => k_is)
    (case l__law_text_of => k_is)
    (case cd__law_text_of_ok => k_is)
    (case k__law_text_of => k_is)
    (case a__law_read => k_is)
    (case l__law_read => k_is)
    (case cd__law_read_ok => k_is)
    (case k__law_read => k_is)
    (case a__law_same => k_is)
    (case l__law_same => k_is)
    (case cd__law_same_ok => k_is)
    (case k__law_same => k_is)
    (case a__law_due => k_is)
    (case l__law_due => k_is)
    (case cd__law_due_ok => k_is)
    (case k__law_due => k_is)
    (case a_law => k_is)
    (case l_law => k_is)
    (case cd_law_ok => k_is)
    (case k_law => k_is)
    (case a_TrunkError => k_is)
    (case a_NoTree => k_is)
    (case a_NoStatement => k_is)
    (case a_NoPlace => k_is)
    (case a_NoNumber => k_is)
    (case a_TooGreat => k_is)
    (case a_NoName => k_is)
    (case a_NoLine => k_is)
    (case a_NothingDone => k_is)
    (case a_NothingHeld => k_is)
    (case x_TrunkError => k_exc)
    (case g1_TrunkError => k_is)
    (case g2_TrunkError => k_is)
    (case g3_TrunkError => k_is)
    (case w_TrunkError_NoStatement => kernel_rfl)
    (case w_TrunkError_TooGreat => kernel_rfl)
    (case w_TrunkError_t0 => kernel_rfl)
    (case w_TrunkError_VE => kernel_rfl)
    (case x_NoStatement => k_exc)
    (case g1_NoStatement => k_is)
    (case g2_NoStatement => k_is)
    (case g3_NoStatement => k_is)
    (case w_NoStatement_NoStatement => kernel_rfl)
    (case w_NoStatement_TooGreat => kernel_rfl)
    (case w_NoStatement_t0 => kernel_rfl)
    (case w_NoStatement_VE => kernel_rfl)
    (case x_TooGreat => k_exc)
    (case g1_TooGreat => k_is)
    (case g2_TooGreat => k_is)
    (case g3_TooGreat => k_is)
    (case w_TooGreat_NoStatement => kernel_rfl)
    (case w_TooGreat_TooGreat => kernel_rfl)
    (case w_TooGreat_t0 => kernel_rfl)
    (case w_TooGreat_VE => kernel_rfl)
    (case u_TrunkError_TrunkError => kernel_rfl)
    (case u_NoStatement_TrunkError => kernel_rfl)
    (case u_TooGreat_TrunkError => kernel_rfl)
    (case z_ValueError => k_is)
    (case z_bool => k_is)
    (case z_int => k_is)
    (case z_isinstance => k_is)
    (case z_len => k_is)
    (case z_range => k_is)
    (case z_str => k_is)
    (case z_tuple => k_is)
    (case a_ALL_LETTERS => k_is)
    (case a_TWO_LETTERED => k_is)
    (case l_TWO_LETTERED => k_is)
    (case a_JOINING => k_is)
    (case l_JOINING => k_is)
    (case a_BINDING => k_is)
    (case l_BINDING => k_is)
    (case a_MOST_SIGNS => k_is)
    (case a_MOST_PARTS => k_is)
