import PyProof.Rows.All
import Wide.All
import OpenK.AllK
import Wide.FinOn
import Lean
import PyProof.EqAt
import PyProof.EqKinds
import PyProof.TupleCall
import PyProof.StrLawsIn
import PyProof.StationsW
import PyProof.NeData
import OpenK.KOwn
import PyProof.NsDelKeeps
import PyProof.ExcArgsOwn
import PyProof.ExcAttrAll.ValueError
import PyProof.IsiH_tuple
import KE.KIsAll
import PyProof.CollectStr
import PyProof.ZipIter
import PyProof.Rows.ZipGen
import PyProof.JoinWalk
import PyProof.CollectIter
import PyProof.EnumMake
import PyProof.SumAny
import PySem.Challenge.RW_trunksay_k10_tree_texts_refused
set_option Elab.async false
set_option linter.all false
set_option maxRecDepth 100000
namespace L2
open PySem PySem.Spec PyProof.Rows
abbrev Key := Sum Int Str
def keyIs : Key -> Value -> Bool
  | .inl k, v => Value.isInt k v
  | .inr x, v => Value.isStrOf x v
def keyH (w : World) : Key -> Int
  | .inl k => hashInt k
  | .inr x => hashStr w x
theorem keyIs_shape : ∀ {k : Key} {v : Value}, keyIs k v = true -> (∃ i t, k = Sum.inl i /\ v = Value.int i t) \/ (∃ x t, k = Sum.inr x /\ v = Value.str x t)
  | .inl i, v, h => by
    obtain ⟨t, e⟩ := Value.isInt_shape (k := i) (v := v) h
    exact .inl ⟨i, t, rfl, e⟩
  | .inr x, v, h => by
    obtain ⟨t, e⟩ := Value.isStrOf_shape (x := x) (v := v) h
    exact .inr ⟨x, t, rfl, e⟩
theorem key_ll (a b : Int) : decide ((Sum.inl a : Key) = Sum.inl b) = (a == b) := by
  by_cases e : a = b
  · subst e; simp
  · have h : ¬ (Sum.inl a : Key) = Sum.inl b := fun q => e (Sum.inl.inj q)
    rw [decide_eq_false h]
    exact (beq_eq_false_iff_ne.mpr e).symm
theorem key_rr (a b : Str) : decide ((Sum.inr a : Key) = Sum.inr b) = decide (a = b) := by
  by_cases e : a = b
  · subst e; simp
  · have h : ¬ (Sum.inr a : Key) = Sum.inr b := fun q => e (Sum.inr.inj q)
    rw [decide_eq_false h, decide_eq_false e]
theorem key_lr (a : Int) (b : Str) : decide ((Sum.inl a : Key) = Sum.inr b) = false := decide_eq_false (fun q => nomatch q)
theorem key_rl (a : Str) (b : Int) : decide ((Sum.inr a : Key) = Sum.inl b) = false := decide_eq_false (fun q => nomatch q)
def mixKind (prog : Program) (w : World) : PySem.KeyKind prog w Key where
  is := keyIs
  hash := keyH w
  inj := fun v a b ha hb => by
    rcases keyIs_shape ha with ⟨i, t, rfl, rfl⟩ | ⟨x, t, rfl, rfl⟩
    · rcases keyIs_shape hb with ⟨j, u, rfl, e⟩ | ⟨y, u, rfl, e⟩
      · injection e with e1 _; rw [e1]
      · exact nomatch e
    · rcases keyIs_shape hb with ⟨j, u, rfl, e⟩ | ⟨y, u, rfl, e⟩
      · exact nomatch e
      · injection e with e1 _; rw [e1]
  byValue := fun k v h => by
    rcases keyIs_shape h with ⟨i, t, rfl, rfl⟩ | ⟨x, t, rfl, rfl⟩ <;> rfl
  pyHash := fun hv h => by
    rcases keyIs_shape hv with ⟨i, t, rfl, rfl⟩ | ⟨x, t, rfl, rfl⟩
    · exact wpAny_pyHash_int h
    · exact wpAny_pyHash_str h
  eqBool := fun hu hv h => by
    rcases keyIs_shape hu with ⟨i, t, rfl, rfl⟩ | ⟨x, t, rfl, rfl⟩
    · rcases keyIs_shape hv with ⟨j, u, rfl, rfl⟩ | ⟨y, u, rfl, rfl⟩
      · rw [key_ll] at h; exact wpAny_eqBool_int h
      · rw [key_lr] at h; exact SeqAt.EqAt.int_str i t y u _ _ _ _ h
    · rcases keyIs_shape hv with ⟨j, u, rfl, rfl⟩ | ⟨y, u, rfl, rfl⟩
      · rw [key_rl] at h; exact SeqAt.EqAt.str_int x t j u _ _ _ _ h
      · rw [key_rr] at h; exact wpAny_eqBool_str h
  «strs» := fun k x t v h => by
    rcases keyIs_shape h with ⟨i, u, rfl, e⟩ | ⟨y, u, rfl, e⟩
    · exact nomatch e
    · injection e with e1 _
      subst e1
      cases v <;> rfl
end L2
namespace L2
open PySem PySem.Spec PyProof.Rows
inductive V where
  | non | bl (b : Bool) | int (i : Int) | str (x : Str) | byt (b : Array UInt8) | flt (b : UInt64) | ref (a : Addr) | ty (n : String)
  deriving DecidableEq
def RelV : V -> Value -> Prop
  | .non, u => u = Value.none
  | .bl b, u => u = Value.bool b
  | .int i, u => ∃ t, u = Value.int i t
  | .str x, u => ∃ t, u = Value.str x t
  | .byt b, u => ∃ t, u = Value.bytes b t
  | .flt b, u => ∃ t, u = Value.float b t
  | .ref a, u => u = Value.ref a
  | .ty n, u => u = Value.type n
abbrev Vals : List V -> List Value -> Prop := Paired RelV
theorem Vals.length {xs : List V} {us : List Value} (r : Vals xs us) : xs.length = us.length := Paired.length r
theorem Vals.get : ∀ {xs : List V} {us : List Value} {i : Nat} {x : V}, Vals xs us -> xs[i]? = some x -> ∃ u, us[i]? = some u /\ RelV x u
  | _, _, _, _, .nil, e => by simp at e
  | _, _, 0, _, .cons r _, e => by simp at e; subst e; exact ⟨_, rfl, r⟩
  | _, _, i + 1, x, .cons _ t, e => by
    obtain ⟨u, h1, h2⟩ := Vals.get (i := i) (x := x) t (by simpa using e)
    exact ⟨u, by simpa using h1, h2⟩
theorem Vals.set {x : V} {u : Value} (r : RelV x u) : ∀ {xs : List V} {us : List Value} (i : Nat), Vals xs us -> Vals (xs.set i x) (us.set i u)
  | _, _, _, .nil => .nil
  | _, _, 0, .cons _ t => .cons r t
  | _, _, i + 1, .cons q t => .cons q (Vals.set r i t)
theorem Vals.append : ∀ {xs ys : List V} {us ws : List Value}, Vals xs us -> Vals ys ws -> Vals (xs ++ ys) (us ++ ws)
  | _, _, _, _, .nil, s => s
  | _, _, _, _, .cons r t, s => .cons r (Vals.append t s)
theorem Vals.take : ∀ {xs : List V} {us : List Value} (n : Nat), Vals xs us -> Vals (xs.take n) (us.take n)
  | _, _, 0, _ => .nil
  | _, _, _ + 1, .nil => .nil
  | _, _, n + 1, .cons r t => .cons r (Vals.take n t)
theorem Vals.drop : ∀ {xs : List V} {us : List Value} (n : Nat), Vals xs us -> Vals (xs.drop n) (us.drop n)
  | _, _, 0, r => r
  | _, _, _ + 1, .nil => .nil
  | _, _, n + 1, .cons _ t => Vals.drop n t
def RelO : Option V -> Option Value -> Prop
  | some v, some u => RelV v u
  | none, none => True
  | _, _ => False
def KV {κ : Type} : List (κ × V) -> List (κ × Value) -> Prop := Paired fun (p : κ × V) (q : κ × Value) => p.1 = q.1 /\ RelV p.2 q.2
def kV : Key -> V
  | .inl i => .int i
  | .inr x => .str x
inductive HO where
  /-- a list -/
  | lst (xs : List V)
  /-- a tuple (never changes) -/
  | tup (xs : List V)
  /-- a dict whose keys are ints and texts; one whose keys are tuples of ints and texts (the empty one is both) -/
  | dK (kvs : List (Key × V)) | dT (kvs : List (List Key × V))
  /-- a set of ints: its members, its size -/
  | set (S : Int -> Bool) (n : Nat)
  /-- an instance of the class at C, its dict at dx, its attributes -/
  | ins (C dx : Addr) (fs : List (Str × V))
  /-- the dict of the instance at x -/
  | own (x : Addr)
  /-- the dict of an exception -/
  | xd (fs : List (Str × V))
  /-- a bound method, f of x -/
  | met (f x : Addr)
  /-- a range object lo, lo + 1, .. below hi -/
  | rng (lo hi : Int)
  /-- a thing that is known to the object (the script; a dict while a loop walks it): read, never written while it is so -/
  | frz (o : Obj) (u : HO)
  /-- a code object's table -/
  | tbl (ps : Array Value)
  /-- any other thing, by what is true of its one object (a def of one's own: SetO a S n := HO.ext fun h => ..) -/
  | ext (φ : Heap -> Prop)
abbrev Hp := Addr -> Option HO
def upd (H : Hp) (a : Addr) (o : HO) : Hp := fun b => if b = a then some o else H b
theorem upd_same {H : Hp} {a : Addr} {o : HO} : upd H a o a = some o := by unfold upd; rw [if_pos rfl]
theorem upd_ne {H : Hp} {a b : Addr} {o : HO} (h : b ≠ a) : upd H a o b = H b := by unfold upd; rw [if_neg h]
theorem ne_of_none {H : Hp} {a b : Addr} {o : HO} (h : H a = some o) (h' : H b = none) : a ≠ b := by
  intro e; subst e; rw [h] at h'; cases h'
section
variable (P : Program) (w : World)
def ObjOk (H : Hp) (h : Heap) (a : Addr) : HO -> Prop
  | .lst xs => xs.length <= sizeLine /\ ∃ (its : List Value) (n : Nat), Vals xs its /\ h.get? a = some { cls := .type "list", data := .seq its.toArray n }
  | .tup xs => xs.length <= sizeLine /\ ∃ its : List Value, Vals xs its /\ IsTup h a its.toArray
  | .dK kvs => kvs.length <= sizeLine /\ (a == sysModules) = false /\ ∃ vs, KV kvs vs /\ h.DictOf (mixKind P w) a vs
  | .dT kvs => kvs.length <= sizeLine /\ (a == sysModules) = false /\ ∃ xs : List (List Key × Addr × Value),
      Paired (fun (p : List Key × V) (q : List Key × Addr × Value) => p.1 = q.1 /\ H q.2.1 = some (.tup (p.1.map kV)) /\ RelV p.2 q.2.2) kvs xs /\
      ∃ o es ep, h.get? a = some o /\ o.ExactDict /\ o.data = .dict es ep /\ es.toList = xs.map (entryOfKey (tupleKind (mixKind P w))) /\ (xs.map (·.1)).Nodup
  | .set S n => h.SetOf (intKind P w) a S n
  | .ins C dx fs => H dx = some (.own a) /\ fs.length <= 1000 /\ dx ≠ a /\ h.get? a = some (PySem.W.instObj C dx) /\
      ∃ mA, h.Ns1 dx mA /\ (∀ f, RelO (fs.lookup f) (mA f)) /\ PySem.Within mA (fs.map (·.1))
  | .own _ => ∃ o, h.get? a = some o
  | .xd fs => ∃ mA, h.Ns1 a mA /\ ∀ f, RelO (fs.lookup f) (mA f)
  | .rng lo hi => ∃ t u v, h.get? a = some { cls := .type "range", data := .fields #[.int lo t, .int hi u, .int 1 v] }
  | .frz o u => h.get? a = some o /\ ObjOk H h a u
  | .tbl ps => h.get? a = some { cls := .none, data := .fields ps }
  | .met f x => h.get? a = some (PySem.W.methodObj (.ref f) (.ref x))
  | .ext φ => φ h /\ (∃ o, h.get? a = some o) /\ ∀ h1 h2 : Heap, φ h1 -> (∀ o, h1.get? a = some o -> h2.get? a = some o) -> φ h2
def HOk (H : Hp) (h : Heap) : Prop := ∀ a o, H a = some o -> ObjOk P w H h a o
end
section
variable {P : Program} {w : World} {H H' : Hp} {h h' : Heap} {a : Addr} {o : HO}
theorem ObjOk.lt (x : ObjOk P w H h a o) : a < h.objs.size := by
  cases o with
  | lst xs => obtain ⟨_, _, _, _, e⟩ := x; exact Heap.lt_size e
  | tup xs => obtain ⟨_, _, _, p⟩ := x; exact p.lt
  | dK kvs => obtain ⟨_, _, _, _, o, _, _, e, _⟩ := x; exact Heap.lt_size e
  | dT kvs => obtain ⟨_, _, _, _, o, _, _, e, _⟩ := x; exact Heap.lt_size e
  | set S n => obtain ⟨o, _, _, _, e, _⟩ := x; exact Heap.lt_size e
  | ins C dx fs => obtain ⟨_, _, _, e, _⟩ := x; exact Heap.lt_size e
  | own y => obtain ⟨_, e⟩ := x; exact Heap.lt_size e
  | xd fs => obtain ⟨_, ⟨_, _, _, e, _⟩, _⟩ := x; exact Heap.lt_size e
  | rng lo hi => obtain ⟨_, _, _, e⟩ := x; exact Heap.lt_size e
  | frz ob u => obtain ⟨e, _⟩ := x; exact Heap.lt_size e
  | tbl ps => exact Heap.lt_size (show h.get? a = some _ from x)
  | met f y => exact Heap.lt_size (show h.get? a = some _ from x)
  | ext φ => obtain ⟨_, ⟨_, e⟩, _⟩ := x; exact Heap.lt_size e
theorem Paired.mapP {α β : Type} {F G : α -> β -> Prop} : ∀ {l₁ : List α} {l₂ : List β}, Paired F l₁ l₂ -> (∀ a b, F a b -> G a b) -> Paired G l₁ l₂
  | _, _, .nil, _ => .nil
  | _, _, .cons r t, f => .cons (f _ _ r) (Paired.mapP t f)
theorem ObjOk.stay (x : ObjOk P w H h a o) (k : ∀ b u, (b = a \/ H b = some (.own a)) -> h.get? b = some u -> h'.get? b = some u)
    (ho : ∀ b, H b = some (.own a) -> H' b = some (.own a)) (ht : ∀ b xs, H b = some (.tup xs) -> H' b = some (.tup xs)) : ObjOk P w H' h' a o := by
  induction o with
  | lst xs => obtain ⟨z, its, n, r, e⟩ := x; exact ⟨z, its, n, r, k _ _ (.inl rfl) e⟩
  | tup xs => obtain ⟨z, its, r, ob, e, c⟩ := x; exact ⟨z, its, r, ob, k _ _ (.inl rfl) e, c⟩
  | dK kvs => obtain ⟨z, y, vs, r, ob, es, ep, e, c⟩ := x; exact ⟨z, y, vs, r, ob, es, ep, k _ _ (.inl rfl) e, c⟩
  | dT kvs =>
    obtain ⟨z, y, xs, r, ob, es, ep, e, c⟩ := x
    exact ⟨z, y, xs, Paired.mapP r fun p q z => ⟨z.1, ht _ _ z.2.1, z.2.2⟩, ob, es, ep, k _ _ (.inl rfl) e, c⟩
  | set S n => obtain ⟨ob, es, ep, t, e, c⟩ := x; exact ⟨ob, es, ep, t, k _ _ (.inl rfl) e, c⟩
  | ins C dx fs =>
    obtain ⟨d, z, ne, e, mA, ⟨od, es, ep, e2, c⟩, r⟩ := x
    exact ⟨ho _ d, z, ne, k _ _ (.inl rfl) e, mA, ⟨od, es, ep, k _ _ (.inr d) e2, c⟩, r⟩
  | own y => obtain ⟨ob, e⟩ := x; exact ⟨ob, k _ _ (.inl rfl) e⟩
  | xd fs => obtain ⟨mA, ⟨od, es, ep, e, c⟩, r⟩ := x; exact ⟨mA, ⟨od, es, ep, k _ _ (.inl rfl) e, c⟩, r⟩
  | rng lo hi => obtain ⟨t, u, v, e⟩ := x; exact ⟨t, u, v, k _ _ (.inl rfl) e⟩
  | frz ob u ih => obtain ⟨e, q⟩ := x; exact ⟨k _ _ (.inl rfl) e, ih q⟩
  | tbl ps =>
    have e : h.get? a = some { cls := .none, data := .fields ps } := x
    show h'.get? a = some { cls := .none, data := .fields ps }
    exact k a _ (.inl rfl) e
  | met f y =>
    have e : h.get? a = some (PySem.W.methodObj (.ref f) (.ref y)) := x
    show h'.get? a = some (PySem.W.methodObj (.ref f) (.ref y))
    exact k a _ (.inl rfl) e
  | ext φ => obtain ⟨p, ⟨o, e⟩, st⟩ := x; exact ⟨st _ _ p fun o q => k _ _ (.inl rfl) q, ⟨o, k _ _ (.inl rfl) e⟩, st⟩
theorem HOk.lt (x : HOk P w H h) (e : H a = some o) : a < h.objs.size := (x a o e).lt
theorem HOk.fresh (x : HOk P w H h) (e : h.objs.size <= a) : H a = none := by
  cases q : H a with
  | none => rfl
  | some u => exact absurd (Nat.lt_of_lt_of_le (x.lt q) e) (Nat.lt_irrefl _)
theorem HOk.kept (x : HOk P w H h) (k : ∀ b u, h.get? b = some u -> h'.get? b = some u) : HOk P w H h' := fun a o e =>
  (x a o e).stay (fun b u _ q => k b u q) (fun _ q => q) fun _ _ q => q
theorem HOk.laid (x : HOk P w H h) (k : ∀ b u, h.get? b = some u -> h'.get? b = some u) (hp : h.objs.size <= a) (new : ObjOk P w (upd H a o) h' a o) : HOk P w (upd H a o) h' := fun b u e => by
  have hn := x.fresh hp
  by_cases hb : b = a
  · subst hb; rw [upd_same] at e; cases e; exact new
  · rw [upd_ne hb] at e
    exact (x b u e).stay (fun c v _ q => k c v q) (fun c q => by rw [upd_ne (ne_of_none q hn)]; exact q) fun c xs q => by rw [upd_ne (ne_of_none q hn)]; exact q
end
def Rd (H : Hp) (a : Addr) (u : HO) : Prop := H a = some u \/ ∃ o, H a = some (.frz o u)
theorem Rd.of {H : Hp} {a : Addr} {u : HO} (h : H a = some u) : Rd H a u := .inl h
theorem Rd.ok {P : Program} {w : World} {H : Hp} {h : Heap} {a : Addr} {u : HO} (r : Rd H a u) (x : HOk P w H h) : ObjOk P w H h a u := by
  rcases r with r | ⟨o, r⟩
  · exact x a u r
  · obtain ⟨_, q⟩ := x a _ r
    exact q
def Mut : Option HO -> Prop
  | some (.lst _) => True
  | some (.dK _) => True
  | some (.dT _) => True
  | some (.set _ _) => True
  | some (.ins _ _ _) => True
  | some (.ext _) => True
  | _ => False
section
variable {P : Program} {w : World} {H : Hp} {h h' : Heap} {x e : Addr} {o' : HO}
theorem HOk.write (ok : HOk P w H h) (mu : Mut (H x)) (he : e = x \/ H e = some (.own x)) (k : ∀ b u, b ≠ e -> h.get? b = some u -> h'.get? b = some u) (heo : ∃ u, h'.get? e = some u)
    (new : ObjOk P w (upd H x o') h' x o') : HOk P w (upd H x o') h' := fun b u q => by
  have nown : ∀ c y, H c = some (.own y) -> c ≠ x := fun c y r z => by subst z; rw [r] at mu; exact mu
  have ntup : ∀ c xs, H c = some (.tup xs) -> c ≠ x := fun c xs r z => by subst z; rw [r] at mu; exact mu
  by_cases hb : b = x
  · subst hb; rw [upd_same] at q; cases q; exact new
  · rw [upd_ne hb] at q
    by_cases hbe : b = e
    · have q' : H b = some (.own x) := by
        rcases he with z | z
        · exact absurd (hbe.trans z) hb
        · rw [hbe]; exact z
      rw [q] at q'; cases q'
      obtain ⟨v, hv⟩ := heo
      exact ⟨v, by rw [hbe]; exact hv⟩
    · refine (ok b u q).stay (fun c v hc r => k c v ?_ r) (fun c r => by rw [upd_ne (nown c b r)]; exact r) fun c xs r => by rw [upd_ne (ntup c xs r)]; exact r
      rcases hc with rfl | hc
      · exact hbe
      · rintro rfl
        rcases he with z | z
        · exact nown c b hc z
        · rw [hc] at z; cases z; exact hb rfl
end
structure Un (fs ex : List Addr) (H H' : Hp) (h h' : Heap) : Prop where
  keep : ∀ b o, h.get? b = some o -> H b = none -> b ∉ fs -> b ∉ ex -> h'.get? b = some o
  slot : ∀ b o, h.get? b = some o -> H b = none -> b ∈ fs -> b ∉ ex -> ∃ sl, h'.get? b = some { o with slots := sl }
  free : ∀ b o, h.get? b = some o -> H b = none -> b ∉ ex -> H' b = none
  there : ∀ b o, h.get? b = some o -> b ∉ ex -> ∃ o', h'.get? b = some o'
  tups : ∀ b xs, H b = some (.tup xs) -> H' b = some (.tup xs)
  frzs : ∀ b o u, H b = some (.frz o u) -> H' b = some (.frz o u)
  tbls : ∀ b ps, H b = some (.tbl ps) -> ∃ more, H' b = some (.tbl (ps ++ more))
section
variable {fs fs' ex ex' : List Addr} {H H1 H2 : Hp} {h h1 h2 h' : Heap} {a x e : Addr} {o : HO}
theorem Un.any (u : Un fs ex H H1 h h1) {b : Addr} {ob : Obj} (q : h.get? b = some ob) (n : H b = none) (hx : b ∉ ex) : ∃ sl, h1.get? b = some { ob with slots := sl } := by
  by_cases hb : b ∈ fs
  · exact u.slot b ob q n hb hx
  · exact ⟨ob.slots, u.keep b ob q n hb hx⟩
theorem Un.trans (a : Un fs ex H H1 h h1) (b : Un fs ex H1 H2 h1 h2) : Un fs ex H H2 h h2 where
  keep := fun c ob q n hc hx => b.keep c ob (a.keep c ob q n hc hx) (a.free c ob q n hx) hc hx
  slot := fun c ob q n hc hx => by
    obtain ⟨sl, e1⟩ := a.slot c ob q n hc hx
    obtain ⟨sl', e2⟩ := b.slot c _ e1 (a.free c ob q n hx) hc hx
    exact ⟨sl', e2⟩
  free := fun c ob q n hx => by
    obtain ⟨o', e1⟩ := a.there c ob q hx
    exact b.free c o' e1 (a.free c ob q n hx) hx
  there := fun c ob q hx => by
    obtain ⟨o', e1⟩ := a.there c ob q hx
    exact b.there c o' e1 hx
  tups := fun c xs q => b.tups c xs (a.tups c xs q)
  frzs := fun c ob xs q => b.frzs c ob xs (a.frzs c ob xs q)
  tbls := fun c ps q => by
    obtain ⟨m1, e1⟩ := a.tbls c ps q
    obtain ⟨m2, e2⟩ := b.tbls c _ e1
    exact ⟨m1 ++ m2, by rw [e2, Array.append_assoc]⟩
theorem Un.kept (k : ∀ b u, h.get? b = some u -> h'.get? b = some u) : Un fs ex H H h h' :=
  ⟨fun b ob q _ _ _ => k b ob q, fun b ob q _ _ _ => ⟨ob.slots, k b ob q⟩, fun _ _ _ n _ => n, fun b ob q _ => ⟨ob, k b ob q⟩, fun _ _ q => q, fun _ _ _ q => q, fun _ ps q => ⟨#[], by rw [q]; simp⟩⟩
theorem Un.refl : Un fs ex H H h h := Un.kept fun _ _ q => q
theorem Un.laid (k : ∀ b u, h.get? b = some u -> h'.get? b = some u) (hp : h.objs.size <= a) (hn : H a = none) : Un fs ex H (upd H a o) h h' where
  keep := fun b u q _ _ _ => k b u q
  slot := fun b u q _ _ _ => ⟨u.slots, k b u q⟩
  free := fun b u q n _ => by rw [upd_ne (Nat.ne_of_lt (Nat.lt_of_lt_of_le (Heap.lt_size q) hp))]; exact n
  there := fun b u q _ => ⟨u, k b u q⟩
  tups := fun b xs q => by rw [upd_ne (ne_of_none q hn)]; exact q
  frzs := fun b u xs q => by rw [upd_ne (ne_of_none q hn)]; exact q
  tbls := fun b ps q => ⟨#[], by rw [upd_ne (ne_of_none q hn), q]; simp⟩
theorem Un.write (mu : Mut (H x)) (he : e = x \/ H e = some (.own x)) (k : ∀ b u, b ≠ e -> h.get? b = some u -> h'.get? b = some u) (heo : ∃ u, h'.get? e = some u) : Un fs ex H (upd H x o) h h' := by
  have hx : ∀ b, H b = none -> b ≠ x := fun b n z => by subst z; rw [n] at mu; exact mu
  have hb : ∀ b, H b = none -> b ≠ e := fun b n z => by
    subst z
    rcases he with r | r
    · exact hx b n r
    · rw [n] at r; cases r
  have hm : ∀ b u, H b = some u -> ¬ Mut (some u) -> b ≠ x := fun b u q nm z => by subst z; rw [q] at mu; exact nm mu
  refine ⟨fun b u q n _ _ => k b u (hb b n) q, fun b u q n _ _ => ⟨u.slots, k b u (hb b n) q⟩, fun b u q n _ => by rw [upd_ne (hx b n)]; exact n, fun b u q _ => ?_,
    fun b xs q => by rw [upd_ne (hm b _ q fun z => z)]; exact q, fun b u xs q => by rw [upd_ne (hm b _ q fun z => z)]; exact q, fun b ps q => ⟨#[], by rw [upd_ne (hm b _ q fun z => z), q]; simp⟩⟩
  by_cases hbe : b = e
  · subst hbe; exact heo
  · exact ⟨u, k b u hbe q⟩
theorem Un.mono (u : Un fs ex H H1 h h1) (hs : ∀ b ∈ fs, b ∈ fs') (hx : ∀ b ∈ ex, b ∈ ex') : Un fs' ex' H H1 h h1 :=
  ⟨fun b ob q n hb he => u.keep b ob q n (fun z => hb (hs b z)) fun z => he (hx b z), fun _ _ q n _ he => u.any q n fun z => he (hx _ z), fun b ob q n he => u.free b ob q n fun z => he (hx b z), fun b ob q he => u.there b ob q fun z => he (hx b z), u.tups, u.frzs, u.tbls⟩
end
def trk (h : Heap) (H : Hp) : List Addr := (List.range h.objs.size).filter fun a => (H a).isSome
def hidT (h : Heap) (H : Hp) : Heap := PySem.W.hideAll h (trk h H)
theorem hidT_size (h : Heap) (H : Hp) : (hidT h H).objs.size = h.objs.size := PySem.W.hideAll_size _ _
theorem hidT_get {h : Heap} {H : Hp} {b : Addr} {o : Obj} (e : h.get? b = some o) (n : H b = none) : (hidT h H).get? b = some o :=
  PySem.W.hideAll_get _ e fun hm => by
    have q : (H b).isSome = true := (List.mem_filter.mp hm).2
    rw [n] at q; simp at q
theorem of_hidT {h : Heap} {H : Hp} {b : Addr} {o : Obj} (e : (hidT h H).get? b = some o) : h.get? b = some o /\ H b = none := by
  have e' : h.get? b = some o := PySem.W.of_hideAll (trk h H) e
  refine ⟨e', ?_⟩
  cases q : H b with
  | none => rfl
  | some x =>
    have hm : b ∈ trk h H := List.mem_filter.mpr ⟨List.mem_range.mpr (Heap.lt_size e'), by simp [q]⟩
    have z : (hidT h H).get? b = none := PySem.W.hideAll_none (trk h H) hm
    rw [z] at e; cases e
def allNews (g h : Heap) (L : Addr) : List (Addr × Obj) := (List.range h.objs.size).filterMap fun a => if a = L \/ (g.get? a).isSome = true then none else (h.get? a).map fun o => (a, o)
def rest (g h : Heap) (L d : Addr) : List (Addr × Obj) := (allNews g h L).filter fun p => decide (p.1 ≠ d)
end L2
namespace L2
open PySem PySem.Spec PyProof.Rows
structure Mod (K : PySem.W.Frag) (mg : Str -> Option Value) (base : Heap) : Prop where
  kin : K.In base
  glob : base.Ns mainGlobals mg
  blt : ∃ mb, base.Ns builtinsNs mb /\ ∀ x : Str, x ≠ "__name__" -> mb x = bootBuiltins x
  nolimit : base.NoLimit
/-- the context: a def's body (or a comprehension's block) running. base: fixed through the whole law; s₀, H₀: the entry; outer: the frames whose slots others may change (a def's callers); stack: all frames that run;
   ex: iterators that were made ahead of the entry and are walked here (a comprehension's); fn: the names whose cells were made at the entry (a def: all; a comprehension's block: its own); calm: not within an except suite; pn: pins that every state bears; xe: what is wanted of an exception that leaves the code -/
structure Cx where
  prog : Program
  w : World
  K : PySem.W.Frag
  mg : Str -> Option Value
  base : Heap
  A : Around
  N : List Str
  s₀ : Shared
  H₀ : Hp
  env : Env
  outer : List Env
  stack : List Env
  ex : List Addr
  fn : Str -> Bool
  calm : Bool
  pn : List (Addr × Obj)
  xe : Value -> Shared -> Prop
def frs (l : List Env) : List Addr := l.filterMap (·.frame)
abbrev Cx.fs (X : Cx) : List Addr := frs X.outer
def Vis (sc : Scope) (x : Str) : Prop := sc.names.lookup x = some .local \/ sc.names.lookup x = some .cell \/ sc.names.lookup x = some .free
def Loc (sc : Scope) (x : Str) : Prop := sc.names.lookup x = some .local \/ sc.names.lookup x = some .cell
def Look (env : Env) (h : Heap) (m : Str -> Option Value) (x : Str) (u : Value) : Prop :=
  (env.kindOf x = some .local /\ m x = some u) \/ ((env.kindOf x = some .cell \/ env.kindOf x = some .free) /\ ∃ c, env.cells.lookup x = some c /\ h.IsCell c (some u))
structure Cx.Ok (X : Cx) : Prop where
  mod : Mod X.K X.mg X.base
  kind : X.env.scope.kind = .function
  glob : X.env.globals = mainGlobals
  blt : X.env.builtins = builtinsNs
  above : X.s₀.heap.objs.size <= X.env.locals
  inj : ∀ x y c, X.env.cells.lookup x = some c -> X.env.cells.lookup y = some c -> x = y
  has : ∀ x, (X.env.kindOf x = some .cell \/ X.env.kindOf x = some .free) -> ∃ c, X.env.cells.lookup x = some c
  cab : ∀ x c, X.fn x = true -> X.env.cells.lookup x = some c -> X.s₀.heap.objs.size <= c
  hd : X.calm = true -> X.A.handled = none
  frames : X.A.frames = some X.stack
  stk : X.stack = X.outer \/ (X.stack = X.env :: X.outer /\ X.env.frame = some X.env.locals)
  exf : ∀ b ∈ X.ex, b ≠ X.env.locals /\ ∀ x c, X.env.cells.lookup x = some c -> c ≠ b
  bs : ∀ b o, X.base.get? b = some o -> X.s₀.heap.get? b = some o /\ X.H₀ b = none
  bsz : X.base.objs.size <= X.s₀.heap.objs.size
  noex : ∀ b o, X.base.get? b = some o -> b ∉ X.ex
  exfs : ∀ b ∈ X.ex, b ∉ X.fs
  funs : X.s₀.heap.FunFrames X.base X.outer
  frf : ∀ b ∈ X.fs, X.H₀ b = none
structure Inv (X : Cx) (pins : List (Addr × Obj)) (σ : List (Option V)) (H : Hp) (s : Shared) : Prop where
  ok : X.Ok
  os : s.os = X.s₀.os
  bare : AllBare s.gens
  base : Un X.fs X.ex X.H₀ H X.s₀.heap s.heap
  loc : ∃ m, s.heap.Ns X.env.locals m /\ ∀ (i : Nat) (x : Str) (v : V), X.N[i]? = some x -> σ[i]? = some (some v) -> Vis X.env.scope x -> ∃ u, RelV v u /\ Look X.env s.heap m x u
  cell : ∀ x c, X.env.cells.lookup x = some c -> ∃ v, s.heap.IsCell c v
  free : H X.env.locals = none
  freeC : ∀ x c, X.env.cells.lookup x = some c -> H c = none
  pin : ∀ p ∈ X.pn ++ pins, s.heap.get? p.1 = some p.2 /\ H p.1 = none /\ p.1 ≠ X.env.locals /\ p.1 ∉ X.fs /\ ∀ v, p.2.data ≠ .cell v
  hok : HOk X.prog X.w H s.heap
  len : σ.length = X.N.length
section
variable {X : Cx} {pins : List (Addr × Obj)} {σ : List (Option V)} {H H' : Hp} {s : Shared} {h' : Heap}
theorem Cx.Ok.nofr (ok : X.Ok) {b : Addr} {o : Obj} (e : X.base.get? b = some o) : b ∉ X.fs := fun hb => by
  have := (ok.funs.mem hb).1
  rw [e] at this; cases this
theorem Inv.bs (I : Inv X pins σ H s) : ∀ b o, X.base.get? b = some o -> s.heap.get? b = some o /\ H b = none := fun b o e =>
  ⟨I.base.keep b o (I.ok.bs b o e).1 (I.ok.bs b o e).2 (I.ok.nofr e) (I.ok.noex b o e), I.base.free b o (I.ok.bs b o e).1 (I.ok.bs b o e).2 (I.ok.noex b o e)⟩
theorem Inv.bk (I : Inv X pins σ H s) : ∀ b o, X.base.get? b = some o -> s.heap.get? b = some o := fun b o e => (I.bs b o e).1
theorem Inv.mod (I : Inv X pins σ H s) : Mod X.K X.mg X.base := I.ok.mod
theorem Inv.kIn (I : Inv X pins σ H s) : X.K.In s.heap := I.ok.mod.kin.keeps I.bk
theorem Inv.nolimit (I : Inv X pins σ H s) : s.heap.NoLimit := I.ok.mod.nolimit.keeps I.bk
theorem Inv.fr (I : Inv X pins σ H s) : ∃ m, Fr X.base X.env.locals s.heap m :=
  let ⟨m, hn, _⟩ := I.loc
  ⟨m, hn, I.bk, Nat.le_trans I.ok.bsz I.ok.above⟩
theorem Inv.lt (I : Inv X pins σ H s) : X.env.locals < s.heap.objs.size := let ⟨_, hn, _⟩ := I.loc; hn.lt
theorem Inv.sz (I : Inv X pins σ H s) : X.s₀.heap.objs.size <= s.heap.objs.size := Nat.le_trans I.ok.above (Nat.le_of_lt I.lt)
theorem Inv.nofs (I : Inv X pins σ H s) {a : Addr} (h : s.heap.objs.size <= a) : a ∉ X.fs := fun hb => by
  obtain ⟨_, o, ho, _⟩ := I.ok.funs.mem hb
  exact absurd (Nat.lt_of_lt_of_le (Heap.lt_size ho) (Nat.le_trans I.sz h)) (Nat.lt_irrefl _)
theorem Inv.cne (I : Inv X pins σ H s) : ∀ x c, X.env.cells.lookup x = some c -> c ≠ X.env.locals := fun x c e z => by
  obtain ⟨v, o, ho, hd⟩ := I.cell x c e
  obtain ⟨m, ⟨o', es, ep, ho', hd', _⟩, _⟩ := I.loc
  rw [z, ho'] at ho; cases ho; rw [hd'] at hd; cases hd
theorem Inv.funs (I : Inv X pins σ H s) : s.heap.FunFrames X.base X.outer := by
  have all : ∀ (l : List Env), (∀ b ∈ frs l, b ∈ X.fs) -> X.s₀.heap.FunFrames X.base l -> s.heap.FunFrames X.base l := by
    intro l
    induction l with
    | nil => intro _ _; trivial
    | cons env r ih =>
      intro hs hl
      obtain ⟨hk, ⟨L, o, hf, hn, ho, hd⟩, hr⟩ := hl
      have hL : L ∈ X.fs := hs L (by unfold frs; rw [List.filterMap_cons, hf]; exact List.mem_cons_self)
      obtain ⟨sl, e⟩ := I.base.slot L o ho (I.ok.frf L hL) hL fun z => I.ok.exfs L z hL
      exact ⟨hk, ⟨L, _, hf, hn, e, hd⟩, ih (fun b hb => hs b (by unfold frs; rw [List.filterMap_cons, hf]; exact List.mem_cons_of_mem _ hb)) hr⟩
  exact all X.outer (fun _ hb => hb) I.ok.funs
theorem Inv.stack (I : Inv X pins σ H s) : s.heap.FunFrames X.base X.stack := by
  rcases I.ok.stk with e | ⟨e, hf⟩
  · rw [e]; exact I.funs
  · rw [e]
    obtain ⟨m, hn, _⟩ := I.loc
    refine .cons (by rw [I.ok.kind]; decide) hf hn ?_ I.funs
    exact Heap.get?_none_of_le (Nat.le_trans I.ok.bsz I.ok.above)
theorem Inv.stkSub (I : Inv X pins σ H s) : ∀ b ∈ frs X.stack, b ∈ X.env.locals :: X.fs := fun b hb => by
  rcases I.ok.stk with e | ⟨e, hf⟩
  · rw [e] at hb; exact List.mem_cons_of_mem _ hb
  · rw [e] at hb
    unfold frs at hb
    rw [List.filterMap_cons, hf] at hb
    exact hb
theorem Inv.stkFree (I : Inv X pins σ H s) : ∀ b ∈ frs X.stack, H b = none := fun b hb => by
  rcases List.mem_cons.mp (I.stkSub b hb) with e | hb
  · rw [e]; exact I.free
  · obtain ⟨_, o, ho, _⟩ := I.ok.funs.mem hb
    exact I.base.free b o ho (I.ok.frf b hb) fun z => I.ok.exfs b z hb
theorem Inv.step {g' : Array GenState} {t' : Nat} {d' : Drawn} {ch : List Addr} (I : Inv X pins σ H s)
    (hch : ∀ b ∈ ch, (b ∈ X.ex \/ X.s₀.heap.objs.size <= b) /\ b ≠ X.env.locals /\ (∀ x c, X.env.cells.lookup x = some c -> c ≠ b) /\ ∀ p ∈ X.pn ++ pins, p.1 ≠ b)
    (keep : ∀ b o, b ≠ X.env.locals -> b ∉ X.fs -> b ∉ ch -> s.heap.get? b = some o -> H b = none -> h'.get? b = some o)
    (slot : ∀ b o, b ≠ X.env.locals -> b ∈ X.fs -> b ∉ ch -> s.heap.get? b = some o -> H b = none -> ∃ sl, h'.get? b = some { o with slots := sl }) (free : ∀ b o, b ∉ ch -> s.heap.get? b = some o -> H b = none -> H' b = none)
    (there : ∀ b o, b ∉ ch -> s.heap.get? b = some o -> ∃ o', h'.get? b = some o')
    (tups : ∀ b xs, H b = some (.tup xs) -> H' b = some (.tup xs)) (frzs : ∀ b o u, H b = some (.frz o u) -> H' b = some (.frz o u)) (tbls : ∀ b ps, H b = some (.tbl ps) -> ∃ more, H' b = some (.tbl (ps ++ more)))
    (ns : ∀ m, s.heap.Ns X.env.locals m -> h'.Ns X.env.locals m) (hok : HOk X.prog X.w H' h') (hg : AllBare g') :
    Inv X pins σ H' { s with heap := h', gens := g', drawn := d', toks := t' } := by
  have neL : ∀ b o, X.s₀.heap.get? b = some o -> b ≠ X.env.locals := fun b o e => Nat.ne_of_lt (Nat.lt_of_lt_of_le (Heap.lt_size e) I.ok.above)
  have neC : ∀ b o, X.s₀.heap.get? b = some o -> b ∉ X.ex -> b ∉ ch := fun b o e hx hb => by
    rcases (hch b hb).1 with z | z
    · exact hx z
    · exact absurd (Nat.lt_of_lt_of_le (Heap.lt_size e) z) (Nat.lt_irrefl _)
  have cellK : ∀ x c, X.env.cells.lookup x = some c -> ∀ v, s.heap.IsCell c v -> h'.IsCell c v := fun x c e v ⟨o, ho, hd⟩ => by
    have nch : c ∉ ch := fun z => (hch c z).2.2.1 x c e rfl
    by_cases hc : c ∈ X.fs
    · obtain ⟨sl, q⟩ := slot c o (I.cne x c e) hc nch ho (I.freeC x c e)
      exact ⟨_, q, hd⟩
    · exact ⟨o, keep c o (I.cne x c e) hc nch ho (I.freeC x c e), hd⟩
  refine ⟨I.ok, I.os, hg, ⟨fun b o e n hb hx => ?_, fun b o e n hb hx => ?_, fun b o e n hx => ?_, fun b o e hx => ?_, fun b xs e => tups b xs (I.base.tups b xs e), fun b o xs e => frzs b o xs (I.base.frzs b o xs e), fun b ps e => ?_⟩, ?_, fun x c e => ?_, ?_, fun x c e => ?_, fun p hp => ?_, hok, I.len⟩
  · exact keep b o (neL b o e) hb (neC b o e hx) (I.base.keep b o e n hb hx) (I.base.free b o e n hx)
  · obtain ⟨sl, e1⟩ := I.base.slot b o e n hb hx
    obtain ⟨sl', e2⟩ := slot b _ (neL b o e) hb (neC b o e hx) e1 (I.base.free b o e n hx)
    exact ⟨sl', e2⟩
  · obtain ⟨o', e1⟩ := I.base.there b o e hx
    exact free b o' (neC b o e hx) e1 (I.base.free b o e n hx)
  · obtain ⟨o', e1⟩ := I.base.there b o e hx
    exact there b o' (neC b o e hx) e1
  · obtain ⟨m1, e1⟩ := I.base.tbls b ps e
    obtain ⟨m2, e2⟩ := tbls b _ e1
    exact ⟨m1 ++ m2, by rw [e2, Array.append_assoc]⟩
  · obtain ⟨m, hn, hl⟩ := I.loc
    refine ⟨m, ns m hn, fun i x v e1 e2 e3 => ?_⟩
    obtain ⟨u, r, l⟩ := hl i x v e1 e2 e3
    refine ⟨u, r, ?_⟩
    rcases l with l | ⟨k, c, e, z⟩
    · exact .inl l
    · exact .inr ⟨k, c, e, cellK x c e _ z⟩
  · obtain ⟨v, z⟩ := I.cell x c e
    exact ⟨v, cellK x c e v z⟩
  · obtain ⟨m, ⟨o, _, _, ho, _⟩, _⟩ := I.loc
    exact free _ o (fun z => (hch _ z).2.1 rfl) ho I.free
  · obtain ⟨v, o, ho, hd⟩ := I.cell x c e
    exact free c o (fun z => (hch c z).2.2.1 x c e rfl) ho (I.freeC x c e)
  · obtain ⟨e, n, ne, nf, d⟩ := I.pin p hp
    have nch : p.1 ∉ ch := fun z => (hch p.1 z).2.2.2 p hp rfl
    exact ⟨keep p.1 p.2 ne nf nch e n, free p.1 p.2 nch e n, ne, nf, d⟩
theorem Inv.un {t' : Nat} (I : Inv X pins σ H s) (u : Un X.fs [] H H' s.heap h') (hok : HOk X.prog X.w H' h') : Inv X pins σ H' { s with heap := h', toks := t' } := by
  obtain ⟨m, ⟨o, es, ep, ho, r⟩, _⟩ := id I.loc
  obtain ⟨sl, hL⟩ := u.any ho I.free (by simp)
  exact I.step (g' := s.gens) (d' := s.drawn) (ch := []) (fun _ z => nomatch z) (fun b o _ hb _ e n => u.keep b o e n hb (by simp)) (fun b o _ hb _ e n => u.slot b o e n hb (by simp)) (fun b o _ e n => u.free b o e n (by simp)) (fun b o _ e => u.there b o e (by simp)) u.tups u.frzs u.tbls (fun m' hm => by
    obtain ⟨o', es', ep', ho', r'⟩ := hm
    rw [ho] at ho'; cases ho'
    exact ⟨_, es', ep', hL, r'⟩) hok I.bare
theorem Inv.call {g' : Array GenState} {t' : Nat} {d' : Drawn} {ch : List Addr} (I : Inv X pins σ H s) (u : Un (frs X.stack) ch H H' s.heap h') (hok : HOk X.prog X.w H' h') (hg : AllBare g')
    (hch : ∀ b ∈ ch, (b ∈ X.ex \/ X.s₀.heap.objs.size <= b) /\ b ≠ X.env.locals /\ (∀ x c, X.env.cells.lookup x = some c -> c ≠ b) /\ ∀ p ∈ X.pn ++ pins, p.1 ≠ b) :
    Inv X pins σ H' { s with heap := h', gens := g', drawn := d', toks := t' } := by
  obtain ⟨m, ⟨o, es, ep, ho, r⟩, _⟩ := id I.loc
  obtain ⟨sl, hL⟩ := u.any ho I.free fun z => (hch _ z).2.1 rfl
  exact I.step (ch := ch) hch (fun b o hL hb hc e n => u.keep b o e n (fun z => (List.mem_cons.mp (I.stkSub b z)).elim hL hb) hc) (fun b o _ _ hc e n => u.any e n hc) (fun b o hc e n => u.free b o e n hc) (fun b o hc e => u.there b o e hc) u.tups u.frzs u.tbls (fun m' hm => by
    obtain ⟨o', es', ep', ho', r'⟩ := hm
    rw [ho] at ho'; cases ho'
    exact ⟨_, es', ep', hL, r'⟩) hok hg
theorem Inv.turned {t' : Nat} {it : Addr} (I : Inv X pins σ H s) (k : ∀ b o, b ≠ it -> s.heap.get? b = some o -> h'.get? b = some o) (hn : H it = none) (hL : it ≠ X.env.locals)
    (h1 : it ∈ X.ex \/ X.s₀.heap.objs.size <= it) (h2 : ∀ x c, X.env.cells.lookup x = some c -> c ≠ it) (h3 : ∀ p ∈ X.pn ++ pins, p.1 ≠ it) : Inv X pins σ H { s with heap := h', toks := t' } := by
  have nit : ∀ b u, H b = some u -> b ≠ it := fun b u e z => by rw [z, hn] at e; cases e
  refine I.step (g' := s.gens) (d' := s.drawn) (ch := [it]) (fun b hb => ?_) (fun b o _ _ hc e _ => k b o (fun z => hc (by simp [z])) e) (fun b o _ _ hc e _ => ⟨o.slots, k b o (fun z => hc (by simp [z])) e⟩) (fun _ _ _ _ n => n)
    (fun b o hc e => ⟨o, k b o (fun z => hc (by simp [z])) e⟩) (fun _ _ e => e) (fun _ _ _ e => e) (fun b ps e => ⟨#[], by rw [e]; simp⟩) (fun m hm => ?_) (fun b u e => ?_) I.bare
  · have e : b = it := by simpa using hb
    subst e
    exact ⟨h1, hL, h2, h3⟩
  · obtain ⟨o, es, ep, ho, r⟩ := hm
    exact ⟨o, es, ep, k _ o (Ne.symm hL) ho, r⟩
  · refine (I.hok b u e).stay (fun c v hc q => k c v ?_ q) (fun _ q => q) fun _ _ q => q
    rcases hc with z | z
    · rw [z]; exact nit b u e
    · exact nit c _ z
theorem Inv.tok (I : Inv X pins σ H s) (t : Nat) : Inv X pins σ H { s with toks := t } := I.un (h' := s.heap) (t' := t) Un.refl I.hok
theorem Inv.kept {t' : Nat} (I : Inv X pins σ H s) (k : ∀ b u, s.heap.get? b = some u -> h'.get? b = some u) : Inv X pins σ H { s with heap := h', toks := t' } := I.un (Un.kept k) (I.hok.kept k)
theorem Inv.laid {a : Addr} {o : HO} {t' : Nat} (I : Inv X pins σ H s) (k : ∀ b u, s.heap.get? b = some u -> h'.get? b = some u) (hp : s.heap.objs.size <= a) (new : ObjOk X.prog X.w (upd H a o) h' a o) :
    Inv X pins σ (upd H a o) { s with heap := h', toks := t' } := I.un (Un.laid k hp (I.hok.fresh hp)) (I.hok.laid k hp new)
theorem Inv.write {x e : Addr} {o : HO} {t' : Nat} (I : Inv X pins σ H s) (mu : Mut (H x)) (he : e = x \/ H e = some (.own x)) (k : ∀ b u, b ≠ e -> s.heap.get? b = some u -> h'.get? b = some u) (heo : ∃ u, h'.get? e = some u)
    (new : ObjOk X.prog X.w (upd H x o) h' x o) : Inv X pins σ (upd H x o) { s with heap := h', toks := t' } := I.un (Un.write mu he k heo) (I.hok.write mu he k heo new)
theorem Inv.pins_of {pins' : List (Addr × Obj)} (I : Inv X pins σ H s) (h : ∀ p ∈ pins', s.heap.get? p.1 = some p.2 /\ H p.1 = none /\ p.1 ≠ X.env.locals /\ p.1 ∉ X.fs /\ ∀ v, p.2.data ≠ .cell v) : Inv X pins' σ H s :=
  ⟨I.ok, I.os, I.bare, I.base, I.loc, I.cell, I.free, I.freeC, fun p hp => (List.mem_append.mp hp).elim (fun z => I.pin p (List.mem_append_left _ z)) (h p), I.hok, I.len⟩
theorem nodup_ix {N : List Str} (hN : N.Nodup) {i j : Nat} {x : Str} (a : N[i]? = some x) (b : N[j]? = some x) : i = j := by
  obtain ⟨h1, e1⟩ := List.getElem?_eq_some_iff.mp a
  obtain ⟨h2, e2⟩ := List.getElem?_eq_some_iff.mp b
  exact (List.getElem_inj hN).mp (e1.trans e2.symm)
theorem store_ok2 {M : Model} {A : Around} {E : Value -> Shared -> Prop} {i : Nat} {x : Str} {v : V} {u : Value} {Q : Unit -> Shared -> Prop} (I : Inv X pins σ H s) (hN : X.N.Nodup) (hi : X.N[i]? = some x) (hx : Loc X.env.scope x) (r : RelV v u)
    (h : ∀ s', Inv X pins (σ.set i (some v)) H s' -> (∃ a, Heap.SameBut a s.heap s'.heap /\ (a = X.env.locals \/ X.env.cells.lookup x = some a)) -> Q () s') (hf : X.fn x = true \/ X.env.scope.names.lookup x = some .local := by first | exact .inl rfl | exact .inr rfl | assumption) : wpAny M A (storeName X.env x u) Q E s := by
  obtain ⟨m, hn, hl⟩ := id I.loc
  have hcls : (X.env.scope.kind == .class || (X.env.scope.kind == .module && X.env.locals != X.env.globals)) = false := by rw [I.ok.kind]; rfl
  have hiσ : i < σ.length := by rw [I.len]; exact (List.getElem?_eq_some_iff.mp hi).1
  have cne := I.cne
  have tracked : ∀ {a : Addr} {h' : Heap}, (∃ o, s.heap.get? a = some o /\ H a = none) -> Heap.SameBut a s.heap h' -> HOk X.prog X.w H h' := fun {a h'} ha hs b ob e => by
    obtain ⟨_, _, hfree⟩ := ha
    refine (I.hok b ob e).stay (fun c w' hc q => (hs.2 c ?_).trans q) (fun _ q => q) fun _ _ q => q
    rintro rfl
    rcases hc with rfl | hc
    · rw [hfree] at e; cases e
    · rw [hfree] at hc; cases hc
  rcases hx with hk | hk
  · refine wpAny_storeName_local hk hn (fun h' hn' hs => ?_) hcls
    obtain ⟨oL, _, _, hoL, _⟩ := id hn
    refine h _ ⟨I.ok, I.os, I.bare, ⟨fun b o e n hb hx => ?_, fun b o e n hb hx => ?_, I.base.free, fun b o e hx => ?_, I.base.tups, I.base.frzs, I.base.tbls⟩, ⟨_, hn', fun j y v' e1 e2 e3 => ?_⟩, fun y c e => ?_, I.free, I.freeC, fun p hp => ?_, tracked ⟨oL, hoL, I.free⟩ hs, by simpa using I.len⟩ ⟨_, hs, .inl rfl⟩
    · exact (hs.2 b (Nat.ne_of_lt (Nat.lt_of_lt_of_le (Heap.lt_size e) I.ok.above))).trans (I.base.keep b o e n hb hx)
    · obtain ⟨sl, e1⟩ := I.base.slot b o e n hb hx
      exact ⟨sl, (hs.2 b (Nat.ne_of_lt (Nat.lt_of_lt_of_le (Heap.lt_size e) I.ok.above))).trans e1⟩
    · obtain ⟨o', e1⟩ := I.base.there b o e hx
      exact ⟨o', (hs.2 b (Nat.ne_of_lt (Nat.lt_of_lt_of_le (Heap.lt_size e) I.ok.above))).trans e1⟩
    · by_cases hj : j = i
      · subst hj
        rw [hi] at e1; cases e1
        rw [List.getElem?_set_self hiσ] at e2
        cases e2
        exact ⟨u, r, .inl ⟨hk, by simp⟩⟩
      · rw [List.getElem?_set_ne (Ne.symm hj)] at e2
        obtain ⟨u', r', q⟩ := hl j y v' e1 e2 e3
        refine ⟨u', r', ?_⟩
        rcases q with ⟨k, e⟩ | ⟨k, c, e, z⟩
        · refine .inl ⟨k, ?_⟩
          have : y ≠ x := fun e => hj (nodup_ix hN e1 (e ▸ hi))
          simp [this, e]
        · exact .inr ⟨k, c, e, z.sameBut hs (cne y c e)⟩
    · obtain ⟨w', z⟩ := I.cell y c e
      exact ⟨w', z.sameBut hs (cne y c e)⟩
    · obtain ⟨e, n, ne, nf, d⟩ := I.pin p hp
      exact ⟨(hs.2 p.1 ne).trans e, n, ne, nf, d⟩
  · have hfn : X.fn x = true := by
      rcases hf with z | z
      · exact z
      · rw [z] at hk; cases hk
    obtain ⟨c, hc⟩ := I.ok.has x (.inl hk)
    obtain ⟨w', z⟩ := I.cell x c hc
    refine wpAny_storeName_cell I.ok.kind hk hc z (fun h' hc' hs => ?_)
    obtain ⟨oc, hoc, hocd⟩ := id z
    refine h { s with heap := h' } ⟨I.ok, I.os, I.bare, ⟨fun b o e n hb hx => ?_, fun b o e n hb hx => ?_, I.base.free, fun b o e hx => ?_, I.base.tups, I.base.frzs, I.base.tbls⟩, ⟨m, hn.sameBut hs (Ne.symm (cne x c hc)), fun j y v' e1 e2 e3 => ?_⟩, fun y c' e => ?_, I.free, I.freeC, fun p hp => ?_, tracked ⟨oc, hoc, I.freeC x c hc⟩ hs, by simpa using I.len⟩ ⟨c, hs, .inr hc⟩
    · exact (hs.2 b (Nat.ne_of_lt (Nat.lt_of_lt_of_le (Heap.lt_size e) (I.ok.cab x c hfn hc)))).trans (I.base.keep b o e n hb hx)
    · obtain ⟨sl, e1⟩ := I.base.slot b o e n hb hx
      exact ⟨sl, (hs.2 b (Nat.ne_of_lt (Nat.lt_of_lt_of_le (Heap.lt_size e) (I.ok.cab x c hfn hc)))).trans e1⟩
    · obtain ⟨o', e1⟩ := I.base.there b o e hx
      exact ⟨o', (hs.2 b (Nat.ne_of_lt (Nat.lt_of_lt_of_le (Heap.lt_size e) (I.ok.cab x c hfn hc)))).trans e1⟩
    · by_cases hj : j = i
      · subst hj
        rw [hi] at e1; cases e1
        rw [List.getElem?_set_self hiσ] at e2
        cases e2
        exact ⟨u, r, .inr ⟨.inl hk, c, hc, hc'⟩⟩
      · rw [List.getElem?_set_ne (Ne.symm hj)] at e2
        obtain ⟨u', r', q⟩ := hl j y v' e1 e2 e3
        refine ⟨u', r', ?_⟩
        rcases q with q | ⟨k, c', e, z'⟩
        · exact .inl q
        · refine .inr ⟨k, c', e, z'.sameBut hs ?_⟩
          rintro rfl
          exact hj (nodup_ix hN e1 (I.ok.inj _ _ _ e hc ▸ hi))
    · by_cases hcc : c' = c
      · subst hcc; exact ⟨_, hc'⟩
      · obtain ⟨w2, z2⟩ := I.cell y c' e
        exact ⟨w2, z2.sameBut hs hcc⟩
    · obtain ⟨e, n, ne, nf, d⟩ := I.pin p hp
      refine ⟨(hs.2 p.1 ?_).trans e, n, ne, nf, d⟩
      intro q
      rw [q, hoc] at e
      have q' : oc = p.2 := Option.some.inj e
      exact d w' (by rw [<- q']; exact hocd)
theorem store_ok {M : Model} {A : Around} {E : Value -> Shared -> Prop} {i : Nat} {x : Str} {v : V} {u : Value} {Q : Unit -> Shared -> Prop} (I : Inv X pins σ H s) (hN : X.N.Nodup) (hi : X.N[i]? = some x) (hx : Loc X.env.scope x) (r : RelV v u)
    (h : ∀ s', Inv X pins (σ.set i (some v)) H s' -> Q () s') (hf : X.fn x = true \/ X.env.scope.names.lookup x = some .local := by first | exact .inl rfl | exact .inr rfl | assumption) : wpAny M A (storeName X.env x u) Q E s :=
  store_ok2 I hN hi hx r (fun s' I' _ => h s' I') hf
theorem Inv.call' {s' : Shared} {ch : List Addr} (I : Inv X pins σ H s) (ho : s'.os = s.os) (u : Un (frs X.stack) ch H H' s.heap s'.heap) (hok : HOk X.prog X.w H' s'.heap) (hg : AllBare s'.gens)
    (hch : ∀ b ∈ ch, (b ∈ X.ex \/ X.s₀.heap.objs.size <= b) /\ b ≠ X.env.locals /\ (∀ x c, X.env.cells.lookup x = some c -> c ≠ b) /\ ∀ p ∈ X.pn ++ pins, p.1 ≠ b) : Inv X pins σ H' s' := by
  obtain ⟨h', g', d', t', o'⟩ := s'
  have e : o' = s.os := ho
  subst e
  exact I.call (g' := g') (t' := t') (d' := d') u hok hg hch
end
abbrev XK := Value -> Option Addr -> Hp -> Prop
abbrev St := List (Option V)
abbrev VK := V -> Hp -> Prop
abbrev TE := St -> Hp -> VK -> Prop
abbrev TT := St -> Hp -> (Bool -> Hp -> Prop) -> Prop
abbrev TA := St -> Hp -> (List V -> Hp -> Prop) -> Prop
structure Ends where
  nx : St -> Hp -> Prop
  rt : VK
  bk : St -> Hp -> Prop := fun _ _ => False
  ct : St -> Hp -> Prop := fun _ _ => False
abbrev TS := Ends -> St -> Hp -> Prop
def EP (X : Cx) (pins : List (Addr × Obj)) (σ : St) (Q : VK) (u : Value) (s' : Shared) : Prop := ∃ v H', Inv X pins σ H' s' /\ RelV v u /\ Q v H'
def TP (X : Cx) (pins : List (Addr × Obj)) (σ : St) (Q : Bool -> Hp -> Prop) (b : Bool) (s' : Shared) : Prop := ∃ H', Inv X pins σ H' s' /\ Q b H'
def AP (X : Cx) (pins : List (Addr × Obj)) (σ : St) (Q : List V -> Hp -> Prop) (us : List Value) (s' : Shared) : Prop := ∃ vs H', Inv X pins σ H' s' /\ Vals vs us /\ Q vs H'
def SP (X : Cx) (pins : List (Addr × Obj)) (D : Ends) (f : Flow) (s' : Shared) : Prop :=
  match f with
  | .next => ∃ σ' H', Inv X pins σ' H' s' /\ D.nx σ' H'
  | .brk => ∃ σ' H', Inv X pins σ' H' s' /\ D.bk σ' H'
  | .cont => ∃ σ' H', Inv X pins σ' H' s' /\ D.ct σ' H'
  | .ret u => ∃ v σ' H', Inv X pins σ' H' s' /\ RelV v u /\ D.rt v H'
def PE (X : Cx) (e : Expr) (t : TE) : Prop :=
  ∀ (pins : List (Addr × Obj)) (s : Shared) (σ : St) (H : Hp) (Q : VK), Inv X pins σ H s -> t σ H Q -> wpAny (model X.prog X.w) X.A (eval e X.env) (EP X pins σ Q) X.xe s
def PT (X : Cx) (e : Expr) (t : TT) : Prop :=
  ∀ (pins : List (Addr × Obj)) (s : Shared) (σ : St) (H : Hp) (Q : Bool -> Hp -> Prop), Inv X pins σ H s -> t σ H Q -> wpAny (model X.prog X.w) X.A (isTrue e X.env (eval e X.env)) (TP X pins σ Q) X.xe s
def PW (X : Cx) (e : Expr) (t : TT) : Prop :=
  ∀ (whole : Sem Value) (pins : List (Addr × Obj)) (s : Shared) (σ : St) (H : Hp) (Q : Bool -> Hp -> Prop), Inv X pins σ H s -> t σ H Q -> wpAny (model X.prog X.w) X.A (isTrue e X.env whole) (TP X pins σ Q) X.xe s
theorem PW.pt {X : Cx} {e : Expr} {t : TT} (h : PW X e t) : PT X e t := h _
def PA (X : Cx) (es : List Expr) (t : TA) : Prop :=
  ∀ (pos : Pos) (pins : List (Addr × Obj)) (s : Shared) (σ : St) (H : Hp) (Q : List V -> Hp -> Prop), Inv X pins σ H s -> t σ H Q -> wpAny (model X.prog X.w) X.A (spliced (backTo pos (starEach es X.env))) (AP X pins σ Q) X.xe s
def PS (X : Cx) (st : Stmt) (t : TS) : Prop :=
  ∀ (pins : List (Addr × Obj)) (s : Shared) (σ : St) (H : Hp) (D : Ends), Inv X pins σ H s -> t D σ H -> wpAny (model X.prog X.w) X.A (exec st X.env) (SP X pins D) X.xe s
def PSs (X : Cx) (st : List Stmt) (t : TS) : Prop :=
  ∀ (pins : List (Addr × Obj)) (s : Shared) (σ : St) (H : Hp) (D : Ends), Inv X pins σ H s -> t D σ H -> wpAny (model X.prog X.w) X.A (execs st X.env) (SP X pins D) X.xe s
theorem thn {α : Type} {t : Sem α} {Q Q' : α -> Shared -> Prop} {M : Model} {A : Around} {E : Value -> Shared -> Prop} {s : Shared} (h : wpAny M A t Q E s) (hQ : ∀ a s, Q a s -> Q' a s) : wpAny M A t Q' E s := wpAny_mono h hQ fun _ _ x => x
end L2
namespace L2
open PySem PySem.Spec PyProof.Rows
section
variable {X : Cx}
def tVar (i : Nat) : TE := fun σ H Q => ∃ v, σ[i]? = some (some v) /\ Q v H
def tC (v : V) : TE := fun _ H Q => Q v H
theorem pe_var {i : Nat} {x : Str} {pos : Pos} (hN : X.N[i]? = some x) (hv : Vis X.env.scope x) (hd : (x == ("__debug__" : Str)) = false := by decide) (hcd : (x == ("__classdict__" : Str)) = false := by decide) : PE X (.Name x pos) (tVar i) := by
  intro pins s σ H Q I h
  obtain ⟨v, e, h⟩ := h
  obtain ⟨m, hn, hl⟩ := I.loc
  obtain ⟨u, r, l⟩ := hl i x v hN e hv
  have fin : EP X pins σ Q u s := ⟨v, H, I, r, h⟩
  rcases l with ⟨hk, hm⟩ | ⟨hk, c, hc, hcell⟩
  · exact wpAny_Name (wpAny_loadName_local I.ok.kind hk hn hm fin) hd
  · rcases hk with hk | hk
    · exact wpAny_Name (wpAny_loadName_cell I.ok.kind hk hc hcell fin) hd
    · exact wpAny_Name (wpAny_loadName_free I.ok.kind hk hc hcell fin hcd) hd
theorem pe_int {i j pos} : PE X (.Constant (.int i) j pos) (tC (.int i)) := fun _ _ _ H _ I h => wpAny_Constant_int ⟨.int i, H, I.tok _, ⟨_, rfl⟩, h⟩
theorem pe_bl {b j pos} : PE X (.Constant (.bool b) j pos) (tC (.bl b)) := fun _ _ _ H _ I h => Constant_bool ⟨.bl b, H, I, rfl, h⟩
theorem pe_non {j pos} : PE X (.Constant .none j pos) (tC .non) := fun _ _ _ H _ I h => Constant_none ⟨.non, H, I, rfl, h⟩
theorem pe_str {x j pos} : PE X (.Constant (.str x) j pos) (tC (.str x)) := fun _ _ _ H _ I h => Calls.Constant_str ⟨.str x, H, I.tok _, ⟨_, rfl⟩, h⟩
def Gl (X : Cx) (x : Str) : Prop := X.env.kindOf x = some .globalImplicit
theorem ld_glob {E : Value -> Shared -> Prop} {pins : List (Addr × Obj)} {s : Shared} {σ : St} {H : Hp} {x : Str} {u : Value} {pos : Pos} {Q : Value -> Shared -> Prop} (I : Inv X pins σ H s) (hg : Gl X x) (hm : X.mg x = some u) (h : Q u s)
    (hd : (x == ("__debug__" : Str)) = false := by decide) : wpAny (model X.prog X.w) X.A (eval (.Name x pos) X.env) Q E s :=
  Calls.Name_function_global I.ok.kind hg (Calls.loadGlobal_global (by rw [I.ok.glob]; exact I.mod.glob.keeps I.bk) hm h) hd
theorem ld_blt {E : Value -> Shared -> Prop} {pins : List (Addr × Obj)} {s : Shared} {σ : St} {H : Hp} {x : Str} {u : Value} {pos : Pos} {Q : Value -> Shared -> Prop} (I : Inv X pins σ H s) (hg : Gl X x) (hm : X.mg x = none) (hv : bootBuiltins x = some u) (h : Q u s)
    (hn : x ≠ "__name__" := by decide) (hd : (x == ("__debug__" : Str)) = false := by decide) : wpAny (model X.prog X.w) X.A (eval (.Name x pos) X.env) Q E s := by
  obtain ⟨mb, h1, h2⟩ := I.mod.blt
  exact Calls.Name_function_global I.ok.kind hg (Calls.loadGlobal_builtin (by rw [I.ok.glob]; exact I.mod.glob.keeps I.bk) hm (by rw [I.ok.blt]; exact h1.keeps I.bk) ((h2 x hn).trans hv) h) hd
theorem pe_glob {x : Str} {v : V} {u : Value} {pos : Pos} (hg : Gl X x) (hm : X.mg x = some u) (r : RelV v u) (hd : (x == ("__debug__" : Str)) = false := by decide) : PE X (.Name x pos) (tC v) :=
  fun _ _ _ H _ I h => ld_glob I hg hm ⟨v, H, I, r, h⟩ hd
theorem pe_bltn {x : Str} {v : V} {u : Value} {pos : Pos} (hg : Gl X x) (hm : X.mg x = none) (hv : bootBuiltins x = some u) (r : RelV v u) (hn : x ≠ "__name__" := by decide) (hd : (x == ("__debug__" : Str)) = false := by decide) : PE X (.Name x pos) (tC v) :=
  fun _ _ _ H _ I h => ld_blt I hg hm hv ⟨v, H, I, r, h⟩ hn hd
variable {a b : Expr} {ta tb : TE} {pos : Pos}
def PC (X : Cx) (op : CmpOp) (a b : Expr) (t : TE) : Prop :=
  ∀ (pins : List (Addr × Obj)) (s : Shared) (σ : St) (H : Hp) (Q : VK), Inv X pins σ H s -> t σ H Q ->
    wpAny (model X.prog X.w) X.A (eval a X.env) (fun v s₁ => wpAny (model X.prog X.w) X.A (eval b X.env) (fun u s₂ => wpAny (model X.prog X.w) X.A (compareOp op v u) (EP X pins σ Q) X.xe s₂) X.xe s₁) X.xe s
theorem nobehind (b : Expr) {op : CmpOp} (h : op ≠ .In) (h2 : op ≠ .NotIn) : behindInMarks op b = false := by
  have e1 : (op == CmpOp.In) = false := by cases op <;> first | rfl | exact absurd rfl h
  have e2 : (op == CmpOp.NotIn) = false := by cases op <;> first | rfl | exact absurd rfl h2
  cases b <;> simp [behindInMarks, e1, e2]
def tIsN (ta : TE) : TE := fun σ H Q => ta σ H fun x H1 => Q (.bl (decide (x = .non))) H1
theorem RelV.none_iff {x : V} {v : Value} (r : RelV x v) : (v == Value.none) = decide (x = .non) := by
  cases x with
  | non => cases r; rfl
  | bl _ => cases r; rfl
  | int _ => obtain ⟨t, rfl⟩ := r; rfl
  | str _ => obtain ⟨t, rfl⟩ := r; rfl
  | byt _ => obtain ⟨t, rfl⟩ := r; rfl
  | flt _ => obtain ⟨t, rfl⟩ := r; rfl
  | ref _ => cases r; rfl
  | ty _ => cases r; rfl
theorem pc_isN {j pos'} (ha : PE X a ta) : PC X .Is a (.Constant .none j pos') (tIsN ta) := by
  intro pins s σ H Q I h
  refine thn (ha pins s σ H _ I h) fun v s1 ⟨x, H1, I1, r1, q1⟩ => ?_
  exact Constant_none (is_none_gen ⟨.bl _, H1, I1, by rw [r1.none_iff]; rfl, q1⟩)
def tB (t : TE) : TT := fun σ H Q => t σ H fun x H1 => ∃ c, x = .bl c /\ Q c H1
theorem pe_cmp {op : CmpOp} {t : TE} (h : PC X op a b t) (h1 : behindInMarks op b = false := by first | exact nobehind _ (by decide) (by decide) | rfl) : PE X (.Compare a [op] [b] pos) t := fun pins s σ H Q I hw => wpAny_Compare1 (h pins s σ H Q I hw) h1
theorem pt_cmp {op : CmpOp} {t : TE} (h : PC X op a b t) (h1 : behindInMarks op b = false := by first | exact nobehind _ (by decide) (by decide) | rfl) : PT X (.Compare a [op] [b] pos) (tB t) := by
  intro pins s σ H Q I hw
  refine wpAny_isTrue_Compare1 (thn (h pins s σ H _ I hw) fun v s1 h1 => thn h1 fun u s2 h2 => thn h2 fun c s3 ⟨x, H1, I1, r1, q1⟩ => ?_) h1
  obtain ⟨d, rfl, q⟩ := q1
  cases r1
  exact wpAny_truthy_bool ⟨H1, I1, q⟩
theorem pt_val {e : Expr} {t : TE} (h : PE X e t) (he : ∀ whole, isTrue e X.env whole = (do let v <- whole; standAt e.pos; holding [v] (truthy v)) := by intro _; rfl) : PT X e (tB t) := by
  intro pins s σ H Q I hw
  refine isTrue_plain (thn (h pins s σ H _ I hw) fun v s1 ⟨x, H1, I1, r1, q1⟩ => ?_) (he _)
  obtain ⟨d, rfl, q⟩ := q1
  cases r1
  exact wpAny_truthy_bool ⟨H1, I1, q⟩
variable {tA tB' : TT} {rest : List Expr}
def tAnd (t u : TT) : TT := fun σ H Q => t σ H fun c H1 => if c = true then u σ H1 Q else Q false H1
def tOr (t u : TT) : TT := fun σ H Q => t σ H fun c H1 => if c = true then Q true H1 else u σ H1 Q
def tNot (t : TT) : TT := fun σ H Q => t σ H fun c H1 => Q (!c) H1
theorem pw_and1 (ha : PT X a tA) : PW X (.BoolOp .And [a] pos) tA := by
  intro wh pins s σ H Q I h
  refine isTrue_and (thn (ha pins s σ H Q I h) fun c s1 e => ?_)
  cases c with
  | true => exact isTrue_and_nil e
  | false => exact e
theorem pw_or1 (ha : PT X a tA) : PW X (.BoolOp .Or [a] pos) tA := by
  intro wh pins s σ H Q I h
  refine isTrue_or (thn (ha pins s σ H Q I h) fun c s1 e => ?_)
  cases c with
  | false => exact isTrue_or_nil e
  | true => exact e
theorem pw_and (ha : PT X a tA) (hb : PW X (.BoolOp .And (b :: rest) pos) tB') : PW X (.BoolOp .And (a :: b :: rest) pos) (tAnd tA tB') := by
  intro wh pins s σ H Q I h
  refine isTrue_and (thn (ha pins s σ H _ I h) fun c s1 ⟨H1, I1, q1⟩ => ?_)
  cases c with
  | true => exact hb wh pins s1 σ H1 Q I1 q1
  | false => exact ⟨H1, I1, q1⟩
theorem pw_or (ha : PT X a tA) (hb : PW X (.BoolOp .Or (b :: rest) pos) tB') : PW X (.BoolOp .Or (a :: b :: rest) pos) (tOr tA tB') := by
  intro wh pins s σ H Q I h
  refine isTrue_or (thn (ha pins s σ H _ I h) fun c s1 ⟨H1, I1, q1⟩ => ?_)
  cases c with
  | true => exact ⟨H1, I1, q1⟩
  | false => exact hb wh pins s1 σ H1 Q I1 q1
theorem pt_not (ha : PT X a tA) : PT X (.UnaryOp .Not a pos) (tNot tA) := by
  intro pins s σ H Q I h
  exact isTrue_not (ha pins s σ H (fun c H1 => Q (!c) H1) I h)
def tAndV (ta tb : TE) : TE := fun σ H Q => ta σ H fun x H1 => ∃ c, x = .bl c /\ if c = true then tb σ H1 Q else Q (.bl false) H1
def tOrV (ta tb : TE) : TE := fun σ H Q => ta σ H fun x H1 => ∃ c, x = .bl c /\ if c = true then Q (.bl true) H1 else tb σ H1 Q
def tNotV (ta : TE) : TE := fun σ H Q => ta σ H fun x H1 => ∃ c, x = .bl c /\ Q (.bl (!c)) H1
theorem pe_one {op} {t : TE} (h : PE X a t) : PE X (.BoolOp op [a] pos) t := fun pins s σ H Q I hw => BoolOp_one (h pins s σ H Q I hw)
theorem pe_and (ha : PE X a ta) (hb : PE X (.BoolOp .And (b :: rest) pos) tb) : PE X (.BoolOp .And (a :: b :: rest) pos) (tAndV ta tb) := by
  intro pins s σ H Q I h
  refine BoolOp_and (thn (ha pins s σ H _ I h) fun v s1 ⟨x, H1, I1, r1, q1⟩ => ?_)
  obtain ⟨c, rfl, q1⟩ := q1
  cases r1
  refine wpAny_truthy_bool ?_
  cases c with
  | true => exact hb pins s1 σ H1 Q I1 q1
  | false => exact ⟨.bl false, H1, I1, rfl, q1⟩
theorem pe_or (ha : PE X a ta) (hb : PE X (.BoolOp .Or (b :: rest) pos) tb) : PE X (.BoolOp .Or (a :: b :: rest) pos) (tOrV ta tb) := by
  intro pins s σ H Q I h
  refine BoolOp_or (thn (ha pins s σ H _ I h) fun v s1 ⟨x, H1, I1, r1, q1⟩ => ?_)
  obtain ⟨c, rfl, q1⟩ := q1
  cases r1
  refine wpAny_truthy_bool ?_
  cases c with
  | false => exact hb pins s1 σ H1 Q I1 q1
  | true => exact ⟨.bl true, H1, I1, rfl, q1⟩
theorem pe_not (ha : PE X a ta) : PE X (.UnaryOp .Not a pos) (tNotV ta) := by
  intro pins s σ H Q I h
  refine UnaryOp_ (thn (ha pins s σ H _ I h) fun v s1 ⟨x, H1, I1, r1, q1⟩ => ?_)
  obtain ⟨c, rfl, q1⟩ := q1
  cases r1
  exact not_of (wpAny_truthy_bool ⟨.bl (!c), H1, I1, rfl, q1⟩)
end
end L2
namespace L2
open PySem PySem.Spec PyProof.Rows
def SqL (K : PySem.W.Frag) (H : Hp) (a : Addr) (xs : List V) : Prop :=
  Rd H a (.lst xs) \/
    ∃ (o : Obj) (its : Array Value) (n : Nat), K.lookup a = some o /\ o.cls = .type "list" /\ o.dict = none /\ o.data = .seq its n /\ its.size <= sizeLine /\ Vals xs its.toList
def SqT (K : PySem.W.Frag) (H : Hp) (a : Addr) (xs : List V) : Prop :=
  Rd H a (.tup xs) \/
    ∃ (o : Obj) (its : Array Value) (n : Nat), K.lookup a = some o /\ o.cls = .type "tuple" /\ o.data = .seq its n /\ its.size <= sizeLine /\ Vals xs its.toList
def absV : Value -> Option V
  | .none => some .non
  | .bool b => some (.bl b)
  | .int i _ => some (.int i)
  | .str x _ => some (.str x)
  | .bytes b _ => some (.byt b)
  | .float b _ => some (.flt b)
  | .ref a => some (.ref a)
  | .type n => some (.ty n)
  | _ => none
theorem RelV.abs {x : V} {u : Value} (r : RelV x u) : absV u = some x := by
  cases x with
  | non => cases r; rfl
  | bl _ => cases r; rfl
  | int _ => obtain ⟨t, rfl⟩ := r; rfl
  | str _ => obtain ⟨t, rfl⟩ := r; rfl
  | byt _ => obtain ⟨t, rfl⟩ := r; rfl
  | flt _ => obtain ⟨t, rfl⟩ := r; rfl
  | ref _ => cases r; rfl
  | ty _ => cases r; rfl
theorem RelV.inj {x y : V} {u : Value} (r : RelV x u) (q : RelV y u) : x = y := Option.some.inj (r.abs.symm.trans q.abs)
theorem Vals.inj : ∀ {xs ys : List V} {us : List Value}, Vals xs us -> Vals ys us -> xs = ys
  | _, _, _, .nil, .nil => rfl
  | _, _, _, .cons r t, .cons r' t' => by rw [r.inj r', Vals.inj t t']
section
variable {X : Cx} {pins : List (Addr × Obj)} {σ : St} {H : Hp} {s : Shared} {a : Addr} {xs ys : List V}
theorem SqL.of {K : PySem.W.Frag} (h : H a = some (.lst xs)) : SqL K H a xs := .inl (.inl h)
theorem SqT.of {K : PySem.W.Frag} (h : H a = some (.tup xs)) : SqT K H a xs := .inl (.inl h)
theorem Inv.list (I : Inv X pins σ H s) (h : SqL X.K H a xs) : ∃ its : List Value, Vals xs its /\ PlainL s.heap a its.toArray /\ xs.length <= sizeLine := by
  rcases h with h | ⟨o, its, n, hk, hc, hd, hs, hz, r⟩
  · obtain ⟨z, its, n, r, e⟩ := h.ok I.hok
    exact ⟨its, r, ⟨_, n, e, rfl, rfl, rfl⟩, z⟩
  · refine ⟨its.toList, r, ⟨o, n, I.kIn a o hk, hc, hd, by simpa using hs⟩, ?_⟩
    have e := r.length
    simp only [Array.length_toList] at e
    omega
theorem Inv.tuple (I : Inv X pins σ H s) (h : SqT X.K H a xs) : ∃ its : List Value, Vals xs its /\ IsTup s.heap a its.toArray /\ xs.length <= sizeLine := by
  rcases h with h | ⟨o, its, n, hk, hc, hs, hz, r⟩
  · obtain ⟨z, its, r, p⟩ := h.ok I.hok
    exact ⟨its, r, p, z⟩
  · refine ⟨its.toList, r, ⟨o, I.kIn a o hk, hc, n, by simpa using hs⟩, ?_⟩
    have e := r.length
    simp only [Array.length_toList] at e
    omega
theorem Inv.list_inj (I : Inv X pins σ H s) (h : SqL X.K H a xs) (h' : SqL X.K H a ys) : xs = ys := by
  obtain ⟨its, r, ⟨o, n, e, _, _, d⟩, _⟩ := I.list h
  obtain ⟨its', r', ⟨o', n', e', _, _, d'⟩, _⟩ := I.list h'
  rw [e] at e'; cases e'
  rw [d] at d'
  injection d' with d1 _
  have : its = its' := by simpa using congrArg Array.toList d1
  subst this
  exact r.inj r'
theorem Inv.tuple_inj (I : Inv X pins σ H s) (h : SqT X.K H a xs) (h' : SqT X.K H a ys) : xs = ys := by
  obtain ⟨its, r, ⟨o, e, _, n, d⟩, _⟩ := I.tuple h
  obtain ⟨its', r', ⟨o', e', _, n', d'⟩, _⟩ := I.tuple h'
  rw [e] at e'; cases e'
  rw [d] at d'
  injection d' with d1 _
  have : its = its' := by simpa using congrArg Array.toList d1
  subst this
  exact r.inj r'
end
abbrev Cx.wish (X : Cx) (E : Value -> Shared -> Prop) : Cx := { X with xe := E }
abbrev Cx.nox (X : Cx) : Cx := X.wish fun _ _ => False
theorem Cx.Ok.wish {X : Cx} (ok : X.Ok) (E : Value -> Shared -> Prop) : (X.wish E).Ok :=
  ⟨ok.mod, ok.kind, ok.glob, ok.blt, ok.above, ok.inj, ok.has, ok.cab, ok.hd, ok.frames, ok.stk, ok.exf, ok.bs, ok.bsz, ok.noex, ok.exfs, ok.funs, ok.frf⟩
theorem Cx.Ok.unwish {X : Cx} {E : Value -> Shared -> Prop} (ok : (X.wish E).Ok) : X.Ok :=
  ⟨ok.mod, ok.kind, ok.glob, ok.blt, ok.above, ok.inj, ok.has, ok.cab, ok.hd, ok.frames, ok.stk, ok.exf, ok.bs, ok.bsz, ok.noex, ok.exfs, ok.funs, ok.frf⟩
section
variable {X : Cx} {pins : List (Addr × Obj)} {σ : St} {H : Hp} {s : Shared} {E : Value -> Shared -> Prop}
theorem Inv.wish (I : Inv X pins σ H s) (E : Value -> Shared -> Prop) : Inv (X.wish E) pins σ H s := ⟨I.ok.wish E, I.os, I.bare, I.base, I.loc, I.cell, I.free, I.freeC, I.pin, I.hok, I.len⟩
theorem Inv.unwish (I : Inv (X.wish E) pins σ H s) : Inv X pins σ H s := ⟨I.ok.unwish, I.os, I.bare, I.base, I.loc, I.cell, I.free, I.freeC, I.pin, I.hok, I.len⟩
theorem SP.unwish {D : Ends} {f : Flow} {s' : Shared} (h : SP (X.wish E) pins D f s') : SP X pins D f s' := by
  cases f with
  | next => obtain ⟨σ', H', I, q⟩ := h; exact ⟨σ', H', I.unwish, q⟩
  | brk => obtain ⟨σ', H', I, q⟩ := h; exact ⟨σ', H', I.unwish, q⟩
  | cont => obtain ⟨σ', H', I, q⟩ := h; exact ⟨σ', H', I.unwish, q⟩
  | ret u => obtain ⟨v, σ', H', I, r, q⟩ := h; exact ⟨v, σ', H', I.unwish, r, q⟩
theorem PE.nox {e : Expr} {t : TE} (h : PE X.nox e t) : PE X e t := fun pins s σ H Q I hw =>
  wpAny_mono (h pins s σ H Q (I.wish _) hw) (fun _ _ ⟨v, H', I', r, q⟩ => ⟨v, H', I'.unwish, r, q⟩) fun _ _ z => False.elim z
theorem PT.nox {e : Expr} {t : TT} (h : PT X.nox e t) : PT X e t := fun pins s σ H Q I hw =>
  wpAny_mono (h pins s σ H Q (I.wish _) hw) (fun _ _ ⟨H', I', q⟩ => ⟨H', I'.unwish, q⟩) fun _ _ z => False.elim z
theorem PSs.nox {st : List Stmt} {t : TS} (h : PSs X.nox st t) : PSs X st t := fun pins s σ H D I hw =>
  wpAny_mono (h pins s σ H D (I.wish _) hw) (fun _ _ q => q.unwish) fun _ _ z => False.elim z
end
section
variable {X : Cx} {st : Stmt} {rest : List Stmt} {t u : TS} {e : Expr} {te : TE} {pos : Pos}
def tNext : TS := fun D σ H => D.nx σ H
def tSeq (t u : TS) : TS := fun D σ H => t { D with nx := u D } σ H
theorem pss_nil : PSs X [] tNext := fun _ _ σ H _ I h => wpAny_execs_nil ⟨σ, H, I, h⟩
theorem pss_cons (h1 : PS X st t) (h2 : PSs X rest u) : PSs X (st :: rest) (tSeq t u) := by
  intro pins s σ H D I h
  refine wpAny_execs_cons (thn (h1 pins s σ H { D with nx := u D } I h) fun f s1 q => ?_)
  cases f with
  | next =>
    obtain ⟨σ', H', I', q⟩ := q
    exact h2 pins s1 σ' H' D I' q
  | ret v => exact q
  | brk => exact q
  | cont => exact q
theorem pss_one (h1 : PS X st t) : PSs X [st] t := by
  intro pins s σ H D I h
  refine wpAny_execs_cons (thn (h1 pins s σ H D I h) fun f s1 q => ?_)
  cases f with
  | next => exact wpAny_execs_nil q
  | ret v => exact q
  | brk => exact q
  | cont => exact q
theorem Inv.quiet {pins : List (Addr × Obj)} {σ : St} {H : Hp} {s : Shared} (I : Inv X pins σ H s) : interactive X.env = false := by simp [interactive, I.ok.kind]
def tDrop (te : TE) : TS := fun D σ H => te σ H fun _ H1 => D.nx σ H1
theorem ps_expr (he : PE X e te) (hs : swapsWith e none pos.line X.env = pure false := by rfl) : PS X (.Expr e pos) (tDrop te) := by
  intro pins s σ H D I h
  exact wpAny_Expr_any (thn (he pins s σ H _ I h) fun v s1 ⟨x, H1, I1, r1, q1⟩ => ⟨σ, H1, I1, q1⟩) I.quiet hs
def tRet (te : TE) : TS := fun D σ H => te σ H D.rt
theorem ps_ret (he : PE X e te) : PS X (.Return (some e) pos) (tRet te) := by
  intro pins s σ H D I h
  exact wpAny_Return_some (thn (he pins s σ H _ I h) fun v s1 ⟨x, H1, I1, r1, q1⟩ => ⟨x, σ, H1, I1, r1, q1⟩)
def tIfS (c : TT) (t u : TS) : TS := fun D σ H => c σ H fun b H1 => if b = true then t D σ H1 else u D σ H1
theorem ps_if {c : Expr} {a b : List Stmt} {tc : TT} (hc : PT X c tc) (ha : PSs X a t) (hb : PSs X b u) : PS X (.If c a b pos) (tIfS tc t u) := by
  intro pins s σ H D I h
  refine wpAny_If (thn (hc pins s σ H _ I h) fun d s1 ⟨H1, I1, q1⟩ => ?_)
  cases d with
  | true => exact ha pins s1 σ H1 D I1 q1
  | false => exact hb pins s1 σ H1 D I1 q1
end
abbrev TG := V -> St -> Hp -> (St -> Hp -> Prop) -> Prop
abbrev TGs := List V -> St -> Hp -> (St -> Hp -> Prop) -> Prop
def PG (X : Cx) (target : Expr) (t : TG) : Prop :=
  ∀ (pins : List (Addr × Obj)) (s : Shared) (σ : St) (H : Hp) (v : V) (u : Value) (Q : St -> Hp -> Prop), Inv X pins σ H s -> RelV v u -> t v σ H Q ->
    wpAny (model X.prog X.w) X.A (assign target X.env u) (fun _ s' => ∃ σ' H', Inv X pins σ' H' s' /\ Q σ' H') X.xe s
def PGs (X : Cx) (ts : List Expr) (t : TGs) : Prop :=
  ∀ (pins : List (Addr × Obj)) (s : Shared) (σ : St) (H : Hp) (vs : List V) (us : List Value) (Q : St -> Hp -> Prop), Inv X pins σ H s -> Vals vs us -> t vs σ H Q ->
    wpAny (model X.prog X.w) X.A (assignInOrder ((assignEach ts X.env).map (·.2)) us) (fun _ s' => ∃ σ' H', Inv X pins σ' H' s' /\ Q σ' H') X.xe s
abbrev TSet := V -> V -> V -> Hp -> (Hp -> Prop) -> Prop
def PSet (X : Cx) (t : TSet) : Prop :=
  ∀ (pins : List (Addr × Obj)) (s : Shared) (σ : St) (H : Hp) (o i v : V) (ov iv u : Value) (Q : Hp -> Prop), Inv X pins σ H s -> RelV o ov -> RelV i iv -> RelV v u -> t o i v H Q ->
    wpAny (model X.prog X.w) X.A (setItem ov iv u) (fun _ s' => ∃ H', Inv X pins σ H' s' /\ Q H') X.xe s
section
variable {X : Cx} {pos : Pos}
def gName (i : Nat) : TG := fun v σ H Q => Q (σ.set i (some v)) H
theorem pg_name {i : Nat} {x : Str} (hN : X.N.Nodup) (hi : X.N[i]? = some x) (hx : Loc X.env.scope x) (hf : X.fn x = true \/ X.env.scope.names.lookup x = some .local := by first | exact .inl rfl | exact .inr rfl | assumption) : PG X (.Name x pos) (gName i) := by
  intro pins s σ H v u Q I r h
  exact wpAny_assign_Name (store_ok I hN hi hx r (fun s' I' => ⟨_, H, I', h⟩) hf)
def gNil : TGs := fun vs σ H Q => vs = [] /\ Q σ H
def gCons (t : TG) (u : TGs) : TGs := fun vs σ H Q => ∃ v r, vs = v :: r /\ t v σ H fun σ' H' => u r σ' H' Q
theorem pgs_nil : PGs X [] gNil := by
  intro pins s σ H vs us Q I r h
  obtain ⟨e, h⟩ := h
  subst e
  cases r
  exact assignInOrder_nil ⟨σ, H, I, h⟩
theorem pgs_cons {e : Expr} {es : List Expr} {t : TG} {u : TGs} (h1 : PG X e t) (h2 : PGs X es u)
    (hs : (assignEach (e :: es) X.env).map (·.2) = assign e X.env :: (assignEach es X.env).map (·.2) := by rfl) : PGs X (e :: es) (gCons t u) := by
  intro pins s σ H vs us Q I r h
  obtain ⟨v, vr, e1, h⟩ := h
  subst e1
  cases r with
  | cons r rr =>
    rw [hs]
    refine assignInOrder_cons (thn (h1 pins s σ H _ _ _ I r h) fun _ s1 ⟨σ1, H1, I1, q1⟩ => ?_)
    exact h2 pins s1 σ1 H1 _ _ Q I1 rr q1
def gTup (K : PySem.W.Frag) (n : Nat) (t : TGs) : TG := fun v σ H Q => ∃ a xs, v = .ref a /\ SqT K H a xs /\ xs.length = n /\ t xs σ H Q
theorem pg_tup {es : List Expr} {k : Nat} {t : TGs} {n : Nat} (hc : X.calm = true) (h : PGs X es t)
    (hn : (assignEach es X.env).length = n := by rfl) (hst : (assignEach es X.env).findIdx? (·.1) = none := by rfl) : PG X (.Tuple es k pos) (gTup X.K n t) := by
  intro pins s σ H v u Q I r hw
  obtain ⟨a, xs, e1, hq, hl, hw⟩ := hw
  subst e1
  cases r
  obtain ⟨its, rv, ht, hz⟩ := I.tuple hq
  refine assign_Tuple_tuple (I.ok.hd hc) ht (by simp [hn, <- hl, rv.length]) hst fun h' hx => ?_
  have I1 : Inv X pins σ H { s with heap := h' } := I.kept (t' := s.toks) fun b o e => hx b o (Nat.ne_of_lt (Heap.lt_size e)) e
  exact h pins _ σ H xs _ Q I1 (by simpa using rv) hw
def gSub (to ti : TE) (t : TSet) : TG := fun v σ H Q => to σ H fun o H1 => ti σ H1 fun i H2 => t o i v H2 fun H3 => Q σ H3
theorem pg_sub {o i : Expr} {to ti : TE} {t : TSet} (ho : PE X o to) (hi : PE X i ti) (hs : PSet X t)
    (ha : ∀ v, assign (.Subscript o i pos) X.env v = (do
      let ov <- holding [v] (eval o X.env)
      let iv <- holding [v, ov] (eval i X.env)
      standAt pos
      holding [v, ov, iv] (setItem ov iv v)
      release [v, ov, iv] []) := by intro _; rfl) : PG X (.Subscript o i pos) (gSub to ti t) := by
  intro pins s σ H v u Q I r h
  rw [ha]
  refine wpAny_bind (wpAny_holding (thn (ho pins s σ H _ I h) fun ov s1 ⟨x, H1, I1, r1, q1⟩ => ?_))
  refine wpAny_bind (wpAny_holding (thn (hi pins s1 σ H1 _ I1 q1) fun iv s2 ⟨y, H2, I2, r2, q2⟩ => ?_))
  refine wpAny_bind (wpAny_standAt (wpAny_bind (wpAny_holding (thn (hs pins s2 σ H2 x y v ov iv u _ I2 r1 r2 r q2) fun _ s3 ⟨H3, I3, q3⟩ => ?_))))
  exact wpAny_release ⟨σ, H3, I3, q3⟩
def tAsg (te : TE) (g : TG) : TS := fun D σ H => te σ H fun x H1 => g x σ H1 D.nx
theorem ps_asg {tg e : Expr} {te : TE} {g : TG} (he : PE X e te) (hg : PG X tg g) (hs : swapsWithSole [tg] e pos.line X.env = pure false := by rfl) (hw : swappedStores [tg] e X.env = pure none := by rfl)
    (h1 : (assignEach [tg] X.env).map (·.2) = [assign tg X.env] := by rfl) : PS X (.Assign [tg] e pos) (tAsg te g) := by
  intro pins s σ H D I h
  refine wpAny_Assign_stores (thn (he pins s σ H _ I h) fun v s1 ⟨x, H1, I1, r1, q1⟩ => ?_) hs hw
  rw [h1]
  exact thn (hg pins s1 σ H1 x v _ I1 r1 q1) fun _ s2 q => q
theorem ps_set {i : Nat} {x : Str} {e : Expr} {te : TE} {pos' : Pos} (hN : X.N.Nodup) (hi : X.N[i]? = some x) (hx : Loc X.env.scope x) (he : PE X e te) (hs : swapsWith e (some (.Name x pos')) pos.line X.env = pure false := by rfl) (hf : X.fn x = true \/ X.env.scope.names.lookup x = some .local := by first | exact .inl rfl | exact .inr rfl | assumption) :
    PS X (.Assign [.Name x pos'] e pos) (tAsg te (gName i)) := by
  intro pins s σ H D I h
  refine wpAny_Assign_Name (thn (he pins s σ H _ I h) fun v s1 ⟨y, H1, I1, r1, q1⟩ => ?_) hs
  exact store_ok I1 hN hi hx r1 (fun s2 I2 => ⟨_, H1, I2, q1⟩) hf
end
section
variable {X : Cx} {pos : Pos}
def tWhile (c : TT) (tb : TS) : TS := fun D σ H => ∃ W : Nat -> St -> Hp -> Prop, (∃ m, W m σ H) /\ ∀ m σ H, W m σ H ->
  c σ H fun b H1 => if b = true then ∃ N : St -> Hp -> Prop, (∀ σ' H', N σ' H' -> ∃ m', m' < m /\ W m' σ' H') /\ tb { D with nx := N, ct := N, bk := D.nx } σ H1 else D.nx σ H1
theorem ps_while {c : Expr} {body : List Stmt} {tc : TT} {tb : TS} (hp : PassesOwn (model X.prog X.w) X.A X.env X.xe) (hc : PT X c tc) (hb : PSs X body tb) : PS X (.While c body [] pos) (tWhile tc tb) := by
  intro pins s σ H D I h
  obtain ⟨W, ⟨m0, w0⟩, turn⟩ := h
  refine wpAny_While (codeAny_whileLoop (fun n s' => ∃ σ' H', Inv X pins σ' H' s' /\ W n σ' H') ?_ m0 ⟨σ, H, I, w0⟩)
  rintro n s1 ⟨σ1, H1, I1, w1⟩
  refine wpAny_passesOwn hp (thn (hc pins s1 σ1 H1 _ I1 (turn n σ1 H1 w1)) fun b s2 ⟨H2, I2, q2⟩ => ?_)
  cases b with
  | true =>
    obtain ⟨N, hN, q2⟩ := q2
    rw [if_pos rfl]
    refine wpAny_passesOwn hp (thn (hb pins s2 σ1 H2 _ I2 q2) fun f s3 q3 => ?_)
    cases f with
    | next =>
      obtain ⟨σ3, H3, I3, n3⟩ := q3
      obtain ⟨m', hm, w3⟩ := hN σ3 H3 n3
      exact ⟨m', hm, σ3, H3, I3, w3⟩
    | cont =>
      obtain ⟨σ3, H3, I3, n3⟩ := q3
      obtain ⟨m', hm, w3⟩ := hN σ3 H3 n3
      exact ⟨m', hm, σ3, H3, I3, w3⟩
    | brk => exact q3
    | ret v => exact q3
  | false =>
    rw [if_neg Bool.false_ne_true]
    exact wpAny_execs_nil ⟨σ1, H2, I2, q2⟩
end
structure It where
  go : Nat -> Hp -> Prop
  yld : Nat -> Hp -> V -> Hp -> Prop
  stop : Nat -> Hp -> Prop
def FpOk (X : Cx) (pins : List (Addr × Obj)) (H : Hp) (b : Addr) : Prop :=
  H b = none /\ b ≠ X.env.locals /\ b ∉ X.fs /\ (b ∈ X.ex \/ X.s₀.heap.objs.size <= b) /\ (∀ x c, X.env.cells.lookup x = some c -> c ≠ b) /\ ∀ p ∈ X.pn ++ pins, p.1 ≠ b
theorem Inv.fpOk {X : Cx} {pins : List (Addr × Obj)} {σ : St} {H H' : Hp} {s : Shared} {b : Addr} (I : Inv X pins σ H s) (hb : s.heap.objs.size <= b) (hn : H' b = none) : FpOk X pins H' b := by
  refine ⟨hn, Nat.ne_of_gt (Nat.lt_of_lt_of_le I.lt hb), I.nofs hb, .inr (Nat.le_trans I.sz hb), fun x c e z => ?_, fun p hp z => ?_⟩
  · obtain ⟨v, q⟩ := I.cell x c e
    exact absurd (Nat.lt_of_lt_of_le q.lt (by rw [z]; exact hb)) (Nat.lt_irrefl _)
  · exact absurd (Nat.lt_of_lt_of_le (Heap.lt_size (I.pin p hp).1) (by rw [z]; exact hb)) (Nat.lt_irrefl _)
structure Turn (P : Program) (w : World) (K : PySem.W.Frag) (tg : Expr) (J : It) (fp : List Addr) (it : Addr) (tn : Nat -> Heap -> Prop) : Prop where
  mem : it ∈ fp
  obj : ∀ i h, tn i h -> ∀ b ∈ fp, ∃ o, h.get? b = some o /\ ∀ v, o.data ≠ .cell v
  keep : ∀ i h h', tn i h -> (∀ b ∈ fp, ∀ o, h.get? b = some o -> h'.get? b = some o) -> tn i h'
  item : ∀ (X : Cx), X.prog = P -> X.w = w -> X.K = K -> X.calm = true -> ∀ (i : Nat) (pins : List (Addr × Obj)) (s : Shared) (σ : St) (H : Hp) (E : Value -> Shared -> Prop), Inv X pins σ H s -> (∀ b ∈ fp, FpOk X pins H b) -> tn i s.heap -> J.go i H ->
    wpAny (model P w) X.A (pyNext (.ref it)) (fun r s1 => ∃ u, r = some u /\
      wpAny (model P w) X.A (letOwnedTupleGo tg (.ref it) u) (fun _ s2 => ∃ x H', Inv X pins σ H' s2 /\ RelV x u /\ J.yld i H x H' /\ tn (i + 1) s2.heap /\ ∀ b ∈ fp, H' b = none) E s1) E s
  done : ∀ (X : Cx), X.prog = P -> X.w = w -> X.K = K -> X.calm = true -> ∀ (i : Nat) (pins : List (Addr × Obj)) (s : Shared) (σ : St) (H : Hp) (E : Value -> Shared -> Prop), Inv X pins σ H s -> (∀ b ∈ fp, FpOk X pins H b) -> tn i s.heap -> J.stop i H ->
    wpAny (model P w) X.A (pyNext (.ref it)) (fun r s1 => r = none /\ Inv X pins σ H s1) E s
  self : ∀ (A : Around) (i : Nat) (s : Shared) (Q : Value -> Shared -> Prop) (E : Value -> Shared -> Prop), tn i s.heap -> Q (.ref it) s -> wpAny (model P w) A (pyIter (.ref it)) Q E s
abbrev TI := St -> Hp -> (It -> Hp -> Prop) -> Prop
def PIE (X : Cx) (pins : List (Addr × Obj)) (σ : St) (tg : Expr) (R : It -> Hp -> Prop) (itv : Value) (s2 : Shared) : Prop :=
  ∃ (it : Addr) (fp : List Addr) (tn : Nat -> Heap -> Prop) (J : It) (H' : Hp), itv = .ref it /\ Inv X pins σ H' s2 /\ Turn X.prog X.w X.K tg J fp it tn /\ tn 0 s2.heap /\ (∀ b ∈ fp, FpOk X pins H' b) /\ R J H'
def PI (X : Cx) (tg iter : Expr) (wi : TI) : Prop :=
  ∀ (pins : List (Addr × Obj)) (s : Shared) (σ : St) (H : Hp) (R : It -> Hp -> Prop), Inv X pins σ H s -> wi σ H R ->
    wpAny (model X.prog X.w) X.A (eval iter X.env) (fun v s1 => wpAny (model X.prog X.w) X.A (pyIter v) (PIE X pins σ tg R) X.xe s1) X.xe s
theorem go_of {M : Model} {A : Around} {E : Value -> Shared -> Prop} {s : Shared} {tg : Expr} {it : Addr} {u : Value} {o : Obj} {n : String} {vs : Array Value} {Q : Unit -> Shared -> Prop} (ho : s.heap.get? it = some o) (hc : o.cls = .type n) (hd : o.data = .fields vs)
    (hn : ["enumerate", "zip", "dict_itemiterator", "dict_reverseitemiterator", "odict_iterator", "itertools.zip_longest", "itertools.pairwise"].contains n = false) (hQ : Q () s) : wpAny M A (letOwnedTupleGo tg (.ref it) u) Q E s := by
  unfold letOwnedTupleGo
  cases tg <;> first
    | exact wpAny_pure hQ
    | (cases u <;> first
        | exact wpAny_pure hQ
        | (refine wpAny_bind (wpAny_load ho ?_)
           rw [hc, hd]
           show wpAny M A (if (["enumerate", "zip", "dict_itemiterator", "dict_reverseitemiterator", "odict_iterator", "itertools.zip_longest", "itertools.pairwise"].contains n && vs[0]? == some (rawInt _)) = true then _ else _) Q E s
           rw [if_neg (by intro h; rw [hn, Bool.false_and] at h; cases h)]
           exact wpAny_pure hQ))
def Itl (K : PySem.W.Frag) (a : Addr) : It :=
  ⟨fun i H => ∃ xs x, SqL K H a xs /\ xs[i]? = some x, fun i H x H' => H' = H /\ ∀ xs, SqL K H a xs -> xs[i]? = some x, fun i H => ∃ xs, SqL K H a xs /\ xs.length <= i⟩
def Itt (K : PySem.W.Frag) (a : Addr) : It :=
  ⟨fun i H => ∃ xs x, SqT K H a xs /\ xs[i]? = some x, fun i H x H' => H' = H /\ ∀ xs, SqT K H a xs -> xs[i]? = some x, fun i H => ∃ xs, SqT K H a xs /\ xs.length <= i⟩
def Itr (lo : Int) (n : Nat) : It := ⟨fun i _ => i < n, fun i H x H' => H' = H /\ x = .int (lo + i), fun i _ => n <= i⟩
theorem turn_list {P : Program} {w : World} {K : PySem.W.Frag} {tg : Expr} (a it : Addr) : Turn P w K tg (Itl K a) [it] it (fun i h => h.IsListIter it a i) where
  mem := by simp
  obj := fun i h st b hb => by
    have e : b = it := by simpa using hb
    subst e
    obtain ⟨o, e, c, d⟩ := st
    exact ⟨o, e, fun v z => by rw [d] at z; cases z⟩
  keep := fun i h h' st k => st.at fun o e => k it (by simp) o e
  item := by
    intro X hP hw hK hc i pins s σ H E I hf st hg
    subst hP hw hK
    obtain ⟨xs, x, hq, hx⟩ := hg
    obtain ⟨its, rv, p, hz⟩ := I.list hq
    obtain ⟨u, hu, ru⟩ := rv.get hx
    obtain ⟨f0, f1, f2, f3, f4, f5⟩ := hf it (by simp)
    refine wpAny_pyNext_list_item st p.isList (x := u) (by simpa using hu) fun h' st' sb => ?_
    have I1 : Inv X pins σ H { s with heap := h' } := I.turned (t' := s.toks) (fun b o hb e => (sb.2 b hb).trans e) f0 f1 f3 f4 f5
    obtain ⟨o, e, c, d⟩ := id st'
    exact ⟨u, rfl, go_of (s := { s with heap := h' }) e c d (by decide) ⟨x, H, I1, ru, ⟨rfl, fun ys hy => by rw [I.list_inj hy hq]; exact hx⟩, st', fun b hb => (hf b hb).1⟩⟩
  done := by
    intro X hP hw hK hc i pins s σ H E I hf st hg
    subst hP hw hK
    obtain ⟨xs, hq, hx⟩ := hg
    obtain ⟨its, rv, p, hz⟩ := I.list hq
    obtain ⟨f0, f1, f2, f3, f4, f5⟩ := hf it (by simp)
    have hl := rv.length
    exact wpAny_pyNext_list_end (I.ok.hd hc) st p.isList (by simp; omega) fun h' eb => ⟨rfl, I.turned (t' := s.toks) (fun b o hb e => eb b o hb e) f0 f1 f3 f4 f5⟩
  self := fun _ _ _ _ _ st h => wpAny_pyIter_listiter st h
theorem turn_tuple {P : Program} {w : World} {K : PySem.W.Frag} {tg : Expr} (a it : Addr) : Turn P w K tg (Itt K a) [it] it (fun i h => h.IsTupleIter it a i) where
  mem := by simp
  obj := fun i h st b hb => by
    have e : b = it := by simpa using hb
    subst e
    obtain ⟨o, e, c, d⟩ := st
    exact ⟨o, e, fun v z => by rw [d] at z; cases z⟩
  keep := fun i h h' st k => st.at fun o e => k it (by simp) o e
  item := by
    intro X hP hw hK hc i pins s σ H E I hf st hg
    subst hP hw hK
    obtain ⟨xs, x, hq, hx⟩ := hg
    obtain ⟨its, rv, p, hz⟩ := I.tuple hq
    obtain ⟨u, hu, ru⟩ := rv.get hx
    obtain ⟨f0, f1, f2, f3, f4, f5⟩ := hf it (by simp)
    refine wpAny_pyNext_tuple_item st (show s.heap.IsTuple a its.toArray from p) (x := u) (by simpa using hu) fun h' st' sb => ?_
    have I1 : Inv X pins σ H { s with heap := h' } := I.turned (t' := s.toks) (fun b o hb e => (sb.2 b hb).trans e) f0 f1 f3 f4 f5
    obtain ⟨o, e, c, d⟩ := id st'
    exact ⟨u, rfl, go_of (s := { s with heap := h' }) e c d (by decide) ⟨x, H, I1, ru, ⟨rfl, fun ys hy => by rw [I.tuple_inj hy hq]; exact hx⟩, st', fun b hb => (hf b hb).1⟩⟩
  done := by
    intro X hP hw hK hc i pins s σ H E I hf st hg
    subst hP hw hK
    obtain ⟨xs, hq, hx⟩ := hg
    obtain ⟨its, rv, p, hz⟩ := I.tuple hq
    obtain ⟨f0, f1, f2, f3, f4, f5⟩ := hf it (by simp)
    have hl := rv.length
    exact wpAny_pyNext_tuple_end (I.ok.hd hc) st (show s.heap.IsTuple a its.toArray from p) (by simp; omega) fun h' eb => ⟨rfl, I.turned (t' := s.toks) (fun b o hb e => eb b o hb e) f0 f1 f3 f4 f5⟩
  self := fun _ _ _ _ _ st h => wpAny_pyIter_tupleiter st h
theorem turn_range {P : Program} {w : World} {K : PySem.W.Frag} {tg : Expr} (it : Addr) (lo : Int) (n : Nat) : Turn P w K tg (Itr lo n) [it] it (fun i h => IsRangeIter h it (lo + (i : Nat) * 1) ((n : Int) - (i : Nat)) 1) where
  mem := by simp
  obj := fun i h st b hb => by
    have e : b = it := by simpa using hb
    subst e
    exact ⟨_, st, fun v z => by
      have z' : Data.fields _ = Data.cell v := z
      cases z'⟩
  keep := fun i h h' st k => k it (by simp) _ st
  item := by
    intro X hP hw hK hc i pins s σ H E I hf st hg
    subst hP hw hK
    obtain ⟨f0, f1, f2, f3, f4, f5⟩ := hf it (by simp)
    have W := Walks.range (prog := X.prog) (w := X.w) (I.ok.hd hc) it lo 1 n
    refine W.item i s _ _ hg st fun v h' tk hv st' kk => ?_
    obtain ⟨t, rfl⟩ := hv
    have I1 : Inv X pins σ H { s with heap := h', toks := tk } := I.turned (fun b o hb e => kk b o (by simpa using hb) e) f0 f1 f3 f4 f5
    refine ⟨_, rfl, go_of (s := { s with heap := h', toks := tk }) (n := "range_iterator") st' rfl rfl (by decide) ⟨.int (lo + i), H, I1, ⟨t, ?_⟩, ⟨rfl, rfl⟩, st', fun b hb => (hf b hb).1⟩⟩
    rw [Int.mul_one]
  done := by
    intro X hP hw hK hc i pins s σ H E I hf st hg
    subst hP hw hK
    obtain ⟨f0, f1, f2, f3, f4, f5⟩ := hf it (by simp)
    exact wpAny_pyNext_range_end (I.ok.hd hc) st (by have : n <= i := hg; omega) fun h' eb => ⟨rfl, I.turned (t' := s.toks) (fun b o hb e => eb b o hb e) f0 f1 f3 f4 f5⟩
  self := fun _ _ _ _ _ st h => wpAny_pyIter_rangeiter st h
end L2
namespace L2
open PySem PySem.Spec PyProof.Rows
section
variable {X : Cx} {tg : Expr}
def iList (K : PySem.W.Frag) (tl : TE) : TI := fun σ H R => tl σ H fun x H1 => ∃ a, x = .ref a /\ (∃ xs, SqL K H1 a xs) /\ R (Itl K a) H1
def iTup (K : PySem.W.Frag) (tl : TE) : TI := fun σ H R => tl σ H fun x H1 => ∃ a, x = .ref a /\ (∃ xs, SqT K H1 a xs) /\ R (Itt K a) H1
theorem pi_list {l : Expr} {tl : TE} (hl : PE X l tl) : PI X tg l (iList X.K tl) := by
  intro pins s σ H R I h
  refine thn (hl pins s σ H _ I h) fun v s1 ⟨x, H1, I1, r1, q1⟩ => ?_
  obtain ⟨a, e, ⟨xs, hq⟩, q⟩ := q1
  subst e
  cases r1
  obtain ⟨its, rv, p, hz⟩ := I1.list hq
  refine wpAny_pyIter_list p.isList ?_
  refine ⟨s1.heap.objs.size, [s1.heap.objs.size], _, _, H1, rfl, I1.kept (t' := s1.toks) fun b o e => Heap.get?_push_of_some _ e, turn_list a _, ⟨_, Heap.get?_push_size _ rfl, rfl, rfl⟩, fun b hb => ?_, q⟩
  have e : b = s1.heap.objs.size := by simpa using hb
  subst e
  exact I1.fpOk (Nat.le_refl _) (I1.hok.fresh (Nat.le_refl _))
theorem pi_tup {l : Expr} {tl : TE} (hl : PE X l tl) : PI X tg l (iTup X.K tl) := by
  intro pins s σ H R I h
  refine thn (hl pins s σ H _ I h) fun v s1 ⟨x, H1, I1, r1, q1⟩ => ?_
  obtain ⟨a, e, ⟨xs, hq⟩, q⟩ := q1
  subst e
  cases r1
  obtain ⟨its, rv, p, hz⟩ := I1.tuple hq
  refine wpAny_pyIter_tuple (show s1.heap.IsTuple a its.toArray from p) ?_
  refine ⟨s1.heap.objs.size, [s1.heap.objs.size], _, _, H1, rfl, I1.kept (t' := s1.toks) fun b o e => Heap.get?_push_of_some _ e, turn_tuple a _, ⟨_, Heap.get?_push_size _ rfl, rfl, rfl⟩, fun b hb => ?_, q⟩
  have e : b = s1.heap.objs.size := by simpa using hb
  subst e
  exact I1.fpOk (Nat.le_refl _) (I1.hok.fresh (Nat.le_refl _))
theorem range_it {pins : List (Addr × Obj)} {σ : St} {H : Hp} {s : Shared} {R : It -> Hp -> Prop} {E : Value -> Shared -> Prop} {lo hi : Int} {t u v : Tok} {tk : Nat} (I : Inv X pins σ H s) (h1 : -(2 ^ 62) <= lo) (h2 : lo < 2 ^ 62) (h3 : -(2 ^ 62) <= hi) (h4 : hi < 2 ^ 62)
    (q : R (Itr lo (hi - lo).toNat) H) : wpAny (model X.prog X.w) X.A (pyIter (.ref s.heap.objs.size)) (PIE X pins σ tg R) E { s with heap := s.heap.push { cls := .type "range", data := .fields #[.int lo t, .int hi u, .int 1 v] }, toks := tk } := by
  refine wpAny_pyIter_range (IsRange.new ..) (small_one h1 h2 h3 h4) ?_
  have I1 : Inv X pins σ H { s with heap := s.heap.push { cls := .type "range", data := .fields #[.int lo t, .int hi u, .int 1 v] }, toks := tk } := I.kept fun b o e => Heap.get?_push_of_some _ e
  refine ⟨(s.heap.push { cls := .type "range", data := .fields #[.int lo t, .int hi u, .int 1 v] }).objs.size, [(s.heap.push { cls := .type "range", data := .fields #[.int lo t, .int hi u, .int 1 v] }).objs.size], _, _, H, rfl,
    I1.kept (t' := tk) fun b o e => Heap.get?_push_of_some _ e, turn_range _ lo (hi - lo).toNat, ?_, fun b hb => ?_, q⟩
  · have e1 : lo + ((0 : Nat) : Int) * 1 = lo := by simp
    have e2 : (((hi - lo).toNat : Nat) : Int) - ((0 : Nat) : Int) = Builtin.Range.rangeSize lo hi 1 := by rw [rangeSize_one]; split <;> omega
    show IsRangeIter _ _ (lo + ((0 : Nat) : Int) * 1) ((((hi - lo).toNat : Nat) : Int) - ((0 : Nat) : Int)) 1
    rw [e1, e2]
    exact Heap.get?_push_size _ rfl
  · have e : b = (s.heap.push { cls := .type "range", data := .fields #[.int lo t, .int hi u, .int 1 v] }).objs.size := by simpa using hb
    subst e
    exact I1.fpOk (Nat.le_refl _) (I1.hok.fresh (Nat.le_refl _))
def iRng1 (ta : TA) : TI := fun σ H R => ta σ H fun vs H1 => ∃ j : Int, vs = [.int j] /\ -(2 ^ 62) <= j /\ j < 2 ^ 62 /\ R (Itr 0 j.toNat) H1
theorem pi_range1 {a : Expr} {ta : TA} {p pos : Pos} (hg : Gl X "range") (hm : X.mg "range" = none) (ha : PA X [a] ta) (hs : starEach [a] X.env = [(false, eval a X.env)] := by rfl) : PI X tg (.Call (.Name "range" p) [a] [] pos) (iRng1 ta) := by
  intro pins s σ H R I h
  refine Call_ (ld_blt I hg hm boot_range (PyProof.Rows.callWith_type1 (thn (ha pos pins s σ H _ I h) fun us s1 ⟨vs, H1, I1, r1, q1⟩ => ?_) hs rfl))
  obtain ⟨j, e, q1, q2, q⟩ := q1
  subst e
  cases r1 with
  | cons r rr =>
    cases rr
    obtain ⟨t, rfl⟩ := r
    exact call_range_1 (range_it I1 (by omega) (by omega) q1 q2 (by simpa using q))
def tFor (wi : TI) (g : TG) (tb : TS) : TS := fun D σ H => wi σ H fun J H1 => ∃ W : Nat -> Nat -> St -> Hp -> Prop, (∃ m, W 0 m σ H1) /\ ∀ i m σ H, W i m σ H ->
  (J.stop i H /\ D.nx σ H) \/ (J.go i H /\ ∃ N : St -> Hp -> Prop, (∀ σ' H', N σ' H' -> ∃ m', m' < m /\ W (i + 1) m' σ' H') /\ ∀ x H', J.yld i H x H' -> g x σ H' fun σ2 H2 => tb { D with nx := N, ct := N, bk := D.nx } σ2 H2)
def pinsAt (fp : List Addr) (h : Heap) : List (Addr × Obj) := fp.filterMap fun b => (h.get? b).map fun o => (b, o)
theorem mem_pinsAt {fp : List Addr} {h : Heap} {b : Addr} {o : Obj} (hb : b ∈ fp) (e : h.get? b = some o) : (b, o) ∈ pinsAt fp h := List.mem_filterMap.mpr ⟨b, hb, by rw [e]; rfl⟩
theorem of_pinsAt {fp : List Addr} {h : Heap} {p : Addr × Obj} (hp : p ∈ pinsAt fp h) : p.1 ∈ fp /\ h.get? p.1 = some p.2 := by
  obtain ⟨b, hb, e⟩ := List.mem_filterMap.mp hp
  cases q : h.get? b with
  | none => rw [q] at e; cases e
  | some o =>
    rw [q] at e
    have e' : (b, o) = p := Option.some.inj e
    subst e'
    exact ⟨hb, q⟩
theorem Inv.pinned {pins : List (Addr × Obj)} {σ : St} {H : Hp} {s : Shared} {fp : List Addr} (I : Inv X pins σ H s) (hf : ∀ b ∈ fp, FpOk X pins H b) (ho : ∀ b ∈ fp, ∃ o, s.heap.get? b = some o /\ ∀ v, o.data ≠ .cell v) : Inv X (pins ++ pinsAt fp s.heap) σ H s :=
  I.pins_of fun p hp => (List.mem_append.mp hp).elim (fun z => I.pin p (List.mem_append_right _ z)) fun z => by
    obtain ⟨hb, e⟩ := of_pinsAt z
    obtain ⟨f0, f1, f2, _⟩ := hf p.1 hb
    obtain ⟨o, e', d⟩ := ho p.1 hb
    rw [e] at e'; cases e'
    exact ⟨e, f0, f1, f2, d⟩
theorem Inv.unpinned {pins pl : List (Addr × Obj)} {σ : St} {H : Hp} {s : Shared} (I : Inv X (pins ++ pl) σ H s) : Inv X pins σ H s := I.pins_of fun p hp => I.pin p (List.mem_append_right _ (List.mem_append_left _ hp))
theorem ps_for {iter : Expr} {body : List Stmt} {wi : TI} {g : TG} {tb : TS} {pos : Pos} (hp : PassesOwn (model X.prog X.w) X.A X.env X.xe) (hc : X.calm = true) (hi : PI X tg iter wi) (hg : PG X tg g) (hb : PSs X body tb)
    (hs : ∀ x, foldedSetIterable iter X.env x = pure x := by intro _; rfl) : PS X (.For tg iter body [] pos) (tFor wi g tb) := by
  intro pins s σ H D I h
  refine wpAny_For (thn (hi pins s σ H _ I h) fun v s1 h1 => thn h1 fun itv s2 h2 => ?_) hs
  obtain ⟨it, fp, tn, J, H2, e, I2, T, st2, f2, W, ⟨m0, w0⟩, turn⟩ := h2
  subst e
  have stat : ∀ {H' : Hp}, (∀ b ∈ fp, H' b = none) -> ∀ b ∈ fp, FpOk X pins H' b := fun hn b hb => ⟨hn b hb, (f2 b hb).2⟩
  refine codeAny_forLoop_any (fun n s' => ∃ i σ' H', Inv X pins σ' H' s' /\ tn i s'.heap /\ (∀ b ∈ fp, H' b = none) /\ W i n σ' H') ?_ m0 ⟨0, σ, H2, I2, st2, fun b hb => (f2 b hb).1, w0⟩
  rintro n s3 ⟨i, σ3, H3, I3, st3, fr3, w3⟩
  rcases turn i n σ3 H3 w3 with ⟨stop, qn⟩ | ⟨go, N, hN, step⟩
  · refine wpAny_passesOwn hp (thn (T.done X rfl rfl rfl hc i pins s3 σ3 H3 X.xe I3 (stat fr3) st3 stop) fun r s4 ⟨hr, I4⟩ => ?_)
    subst hr
    exact wpAny_execs_nil ⟨σ3, H3, I4, qn⟩
  · refine wpAny_passesOwn hp (thn (T.item X rfl rfl rfl hc i pins s3 σ3 H3 X.xe I3 (stat fr3) st3 go) fun r s4 ⟨u, hr, h4⟩ => ?_)
    subst hr
    refine wpAny_passesOwn hp (thn h4 fun _ s5 ⟨x, H5, I5, r5, y5, st5, fr5⟩ => ?_)
    have I5' := I5.pinned (stat fr5) (T.obj _ _ st5)
    refine wpAny_passesOwn hp (thn (hg _ s5 σ3 H5 x u _ I5' r5 (step x H5 y5)) fun _ s6 ⟨σ6, H6, I6, q6⟩ => ?_)
    refine wpAny_passesOwn hp (thn (hb _ s6 σ6 H6 _ I6 q6) fun f s7 q7 => ?_)
    have again : ∀ {σ7 : St} {H7 : Hp}, Inv X (pins ++ pinsAt fp s5.heap) σ7 H7 s7 -> N σ7 H7 -> ∃ m, m < n /\ ∃ i σ' H', Inv X pins σ' H' s7 /\ tn i s7.heap /\ (∀ b ∈ fp, H' b = none) /\ W i m σ' H' := fun {σ7 H7} I7 n7 => by
      obtain ⟨m', hm, w7⟩ := hN σ7 H7 n7
      refine ⟨m', hm, i + 1, σ7, H7, I7.unpinned, T.keep _ _ _ st5 fun b hb o e => (I7.pin (b, o) (List.mem_append_right _ (List.mem_append_right _ (mem_pinsAt hb e)))).1, fun b hb => ?_, w7⟩
      obtain ⟨o, e, d⟩ := T.obj _ _ st5 b hb
      exact (I7.pin (b, o) (List.mem_append_right _ (List.mem_append_right _ (mem_pinsAt hb e)))).2.1
    cases f with
    | next => obtain ⟨σ7, H7, I7, n7⟩ := q7; exact again I7 n7
    | cont => obtain ⟨σ7, H7, I7, n7⟩ := q7; exact again I7 n7
    | brk => obtain ⟨σ7, H7, I7, q7⟩ := q7; exact ⟨σ7, H7, I7.unpinned, q7⟩
    | ret v => obtain ⟨x7, σ7, H7, I7, r7, q7⟩ := q7; exact ⟨x7, σ7, H7, I7.unpinned, r7, q7⟩
end
end L2
namespace L2
open PySem PySem.Spec PyProof.Rows
abbrev R2 := V -> V -> Hp -> VK -> Prop
def OpR (X : Cx) (f : Value -> Value -> Sem Value) (r : R2) : Prop :=
  ∀ (pins : List (Addr × Obj)) (s : Shared) (σ : St) (H : Hp) (x y : V) (v u : Value) (Q : VK), Inv X pins σ H s -> RelV x v -> RelV y u -> r x y H Q ->
    wpAny (model X.prog X.w) X.A (f v u) (EP X pins σ Q) X.xe s
def UnR (X : Cx) (f : Value -> Sem Value) (r : V -> Hp -> VK -> Prop) : Prop :=
  ∀ (pins : List (Addr × Obj)) (s : Shared) (σ : St) (H : Hp) (x : V) (v : Value) (Q : VK), Inv X pins σ H s -> RelV x v -> r x H Q ->
    wpAny (model X.prog X.w) X.A (f v) (EP X pins σ Q) X.xe s
def CallR (X : Cx) (f : Value) (r : List V -> Hp -> VK -> Prop) : Prop :=
  ∀ (pins : List (Addr × Obj)) (s : Shared) (σ : St) (H : Hp) (xs : List V) (us : List Value) (Q : VK), Inv X pins σ H s -> Vals xs us -> r xs H Q ->
    wpAny (model X.prog X.w) X.A (call f us) (EP X pins σ Q) X.xe s
def tOp (r : R2) (ta tb : TE) : TE := fun σ H Q => ta σ H fun x H1 => tb σ H1 fun y H2 => r x y H2 Q
def tUn (r : V -> Hp -> VK -> Prop) (ta : TE) : TE := fun σ H Q => ta σ H fun x H1 => r x H1 Q
def rI (C : Int -> Int -> Prop) (g : Int -> Int -> V) : R2 := fun x y H Q => ∃ i j, x = .int i /\ y = .int j /\ C i j /\ Q (g i j) H
def rI0 (g : Int -> Int -> V) : R2 := fun x y H Q => ∃ i j, x = .int i /\ y = .int j /\ Q (g i j) H
def rU (g : Int -> V) : V -> Hp -> VK -> Prop := fun x H Q => ∃ i, x = .int i /\ Q (g i) H
section
variable {X : Cx} {a b c : Expr} {ta tb tc : TE} {pos : Pos}
theorem binT (ha : PE X a ta) (hb : PE X b tb) {pins : List (Addr × Obj)} {s : Shared} {σ : St} {H : Hp} {R : V -> V -> Hp -> Prop} (I : Inv X pins σ H s)
    (h : ta σ H fun x H1 => tb σ H1 fun y H2 => R x y H2) {Q : Value -> Shared -> Prop} {f : Value -> Value -> Sem Value}
    (hf : ∀ v u s2 x y H2, Inv X pins σ H2 s2 -> RelV x v -> RelV y u -> R x y H2 -> wpAny (model X.prog X.w) X.A (f v u) Q X.xe s2) :
    wpAny (model X.prog X.w) X.A (eval a X.env) (fun v s₁ => wpAny (model X.prog X.w) X.A (eval b X.env) (fun u s₂ => wpAny (model X.prog X.w) X.A (f v u) Q X.xe s₂) X.xe s₁) X.xe s := by
  refine thn (ha pins s σ H _ I h) fun v s1 ⟨x, H1, I1, r1, q1⟩ => ?_
  refine thn (hb pins s1 σ H1 _ I1 q1) fun u s2 ⟨y, H2, I2, r2, q2⟩ => ?_
  exact hf v u s2 x y H2 I2 r1 r2 q2
theorem pe_op {op : Operator} {r : R2} (ho : OpR X (binaryOp op) r) (ha : PE X a ta) (hb : PE X b tb) : PE X (.BinOp a op b pos) (tOp r ta tb) := by
  intro pins s σ H Q I h
  exact wpAny_BinOp (binT ha hb I h fun v u s2 x y H2 I2 rx ry q => ho pins s2 σ H2 x y v u Q I2 rx ry q)
theorem pe_un {op : UnaryOp} {r : V -> Hp -> VK -> Prop} (ho : UnR X (unaryOp op) r) (ha : PE X a ta) : PE X (.UnaryOp op a pos) (tUn r ta) := by
  intro pins s σ H Q I h
  exact UnaryOp_ (thn (ha pins s σ H _ I h) fun v s1 ⟨x, H1, I1, r1, q1⟩ => ho pins s1 σ H1 x v Q I1 r1 q1)
theorem opI {f : Value -> Value -> Sem Value} {C : Int -> Int -> Prop} {g : Int -> Int -> Int}
    (rule : ∀ (i j : Int) (t u : Tok) (s : Shared) (Q : Value -> Shared -> Prop) (E : Value -> Shared -> Prop), C i j -> Q (.int (g i j) s.toks) { s with toks := s.toks + 1 } -> wpAny (model X.prog X.w) X.A (f (.int i t) (.int j u)) Q E s) :
    OpR X f (rI C fun i j => .int (g i j)) := by
  intro pins s σ H x y v u Q I rx ry h
  obtain ⟨i, j, rfl, rfl, hc, q⟩ := h
  obtain ⟨t, rfl⟩ := rx
  obtain ⟨t', rfl⟩ := ry
  exact rule i j t t' s _ _ hc ⟨.int (g i j), H, I.tok _, ⟨_, rfl⟩, q⟩
theorem opI0 {f : Value -> Value -> Sem Value} {g : Int -> Int -> Int}
    (rule : ∀ (i j : Int) (t u : Tok) (s : Shared) (Q : Value -> Shared -> Prop) (E : Value -> Shared -> Prop), Q (.int (g i j) s.toks) { s with toks := s.toks + 1 } -> wpAny (model X.prog X.w) X.A (f (.int i t) (.int j u)) Q E s) :
    OpR X f (rI0 fun i j => .int (g i j)) := by
  intro pins s σ H x y v u Q I rx ry h
  obtain ⟨i, j, rfl, rfl, q⟩ := h
  obtain ⟨t, rfl⟩ := rx
  obtain ⟨t', rfl⟩ := ry
  exact rule i j t t' s _ _ ⟨.int (g i j), H, I.tok _, ⟨_, rfl⟩, q⟩
theorem opB0 {f : Value -> Value -> Sem Value} {g : Int -> Int -> Bool}
    (rule : ∀ (i j : Int) (t u : Tok) (s : Shared) (Q : Value -> Shared -> Prop) (E : Value -> Shared -> Prop), Q (.bool (g i j)) s -> wpAny (model X.prog X.w) X.A (f (.int i t) (.int j u)) Q E s) :
    OpR X f (rI0 fun i j => .bl (g i j)) := by
  intro pins s σ H x y v u Q I rx ry h
  obtain ⟨i, j, rfl, rfl, q⟩ := h
  obtain ⟨t, rfl⟩ := rx
  obtain ⟨t', rfl⟩ := ry
  exact rule i j t t' s _ _ ⟨.bl (g i j), H, I, rfl, q⟩
def CDiv (i j : Int) : Prop := 0 < j /\ j < 1073741824
def CPow (i j : Int) : Prop := 0 <= j /\ j <= 1000000 /\ i.natAbs < 2 ^ 64
def CMul (i j : Int) : Prop := (-(2 ^ 64) < i /\ i < 2 ^ 64) \/ (-(2 ^ 64) < j /\ j < 2 ^ 64)
theorem CMul.ok {i j : Int} (h : CMul i j) : IntMulOk i j := by
  rcases h with ⟨h1, h2⟩ | ⟨h1, h2⟩
  · exact .of_left (intBits_le_64 h1 h2)
  · exact .of_right (intBits_le_64 h1 h2)
theorem two_pow_nn (k : Nat) : (0 : Int) <= 2 ^ k := by
  rw [two_pow_cast]
  exact Int.natCast_nonneg _
theorem op_add : OpR X (binaryOp .Add) (rI0 fun i j => .int (i + j)) := opI0 fun _ _ _ _ _ _ _ q => add_int q
theorem op_sub : OpR X (binaryOp .Sub) (rI0 fun i j => .int (i - j)) := opI0 fun _ _ _ _ _ _ _ q => sub_int q
theorem op_mul : OpR X (binaryOp .Mult) (rI CMul fun i j => .int (i * j)) := opI fun _ _ _ _ _ _ _ hc q => mul_int q hc.ok
theorem op_fdiv : OpR X (binaryOp .FloorDiv) (rI CDiv fun i j => .int (i / j)) := opI fun i j _ _ _ _ _ hc q => by
  have h1 : (0 : Int) < j := hc.1
  have h2 : j < 1073741824 := hc.2
  exact floordiv_int (by omega) (by rw [Int.fdiv_eq_ediv_of_nonneg i (by omega)]; exact q) (.inl (PyProof.noPylong_small (by omega)))
theorem op_mod : OpR X (binaryOp .Mod) (rI (fun _ j => 0 < j) fun i j => .int (i % j)) := opI fun i j _ _ _ _ _ hc q => by
  have h1 : (0 : Int) < j := hc
  exact mod_int' (by omega) (by rw [Int.fmod_eq_emod_of_nonneg i (by omega)]; exact q)
theorem op_pow : OpR X (binaryOp .Pow) (rI CPow fun i j => .int (i ^ j.toNat)) := opI fun _ _ _ _ _ _ _ hc q => pow_int_small hc.1 hc.2.1 hc.2.2 q
theorem op_shr : OpR X (binaryOp .RShift) (rI (fun _ j => 0 <= j) fun i j => .int (i / 2 ^ j.toNat)) := opI fun i j _ _ _ _ _ hc q =>
  rshift_int hc (by rw [Int.fdiv_eq_ediv_of_nonneg i (two_pow_nn _)]; exact q)
theorem op_and : OpR X (binaryOp .BitAnd) (rI0 fun i j => .int (Builtin.bitAnd i j)) := opI0 fun _ _ _ _ _ _ _ q => and_int q
theorem unI {f : Value -> Sem Value} {g : Int -> Int}
    (rule : ∀ (i : Int) (t : Tok) (s : Shared) (Q : Value -> Shared -> Prop) (E : Value -> Shared -> Prop), Q (.int (g i) s.toks) { s with toks := s.toks + 1 } -> wpAny (model X.prog X.w) X.A (f (.int i t)) Q E s) :
    UnR X f (rU fun i => .int (g i)) := by
  intro pins s σ H x v Q I rx h
  obtain ⟨i, rfl, q⟩ := h
  obtain ⟨t, rfl⟩ := rx
  exact rule i t s _ _ ⟨.int (g i), H, I.tok _, ⟨_, rfl⟩, q⟩
theorem un_neg : UnR X (unaryOp .USub) (rU fun i => .int (-i)) := unI fun _ _ _ _ _ q => neg_int q
end
section
variable {X : Cx} {a b c : Expr} {ta tb tc : TE} {pos : Pos}
theorem fin_bl {pins : List (Addr × Obj)} {σ : St} {H : Hp} {s : Shared} {Q : VK} {k k' : Bool} (I : Inv X pins σ H s) (q : Q (.bl k) H) (e : k = k') : EP X pins σ Q (.bool k') s := by
  subst e
  exact ⟨.bl k, H, I, rfl, q⟩
theorem op_lt : OpR X (compareOp .Lt) (rI0 fun i j => .bl (decide (i < j))) := opB0 fun _ _ _ _ _ _ _ q => lt_int q
theorem op_le : OpR X (compareOp .LtE) (rI0 fun i j => .bl (decide (i <= j))) := opB0 fun _ _ _ _ _ _ _ q => le_int q
theorem op_gt : OpR X (compareOp .Gt) (rI0 fun i j => .bl (decide (j < i))) := opB0 fun _ _ _ _ _ _ _ q => gt_int q
theorem op_ge : OpR X (compareOp .GtE) (rI0 fun i j => .bl (decide (j <= i))) := opB0 fun _ _ _ _ _ _ _ q => ge_int q
theorem op_in_str : OpR X (compareOp .In) (fun x y H Q => ∃ i j, x = .str i /\ y = .str j /\ Q (.bl (!(Builtin.Str.occurrences j i 0 j.length 1).isEmpty)) H) := by
  intro pins s σ H x y v u Q I rx ry h
  obtain ⟨i, j, rfl, rfl, q⟩ := h
  obtain ⟨t, rfl⟩ := rx
  obtain ⟨t', rfl⟩ := ry
  exact in_str (fin_bl I q rfl)
theorem op_notin_str : OpR X (compareOp .NotIn) (fun x y H Q => ∃ i j, x = .str i /\ y = .str j /\ Q (.bl (!(!(Builtin.Str.occurrences j i 0 j.length 1).isEmpty))) H) := by
  intro pins s σ H x y v u Q I rx ry h
  obtain ⟨i, j, rfl, rfl, q⟩ := h
  obtain ⟨t, rfl⟩ := rx
  obtain ⟨t', rfl⟩ := ry
  exact notIn_str (fin_bl I q rfl)
theorem OpR.or {f : Value -> Value -> Sem Value} {r r' : R2} (h : OpR X f r) (h' : OpR X f r') : OpR X f (fun x y H Q => r x y H Q \/ r' x y H Q) := by
  intro pins s σ H x y v u Q I rx ry q
  rcases q with q | q
  · exact h pins s σ H x y v u Q I rx ry q
  · exact h' pins s σ H x y v u Q I rx ry q
theorem nomark (b : Expr) {op : CmpOp} (h : op ≠ .In := by decide) (h2 : op ≠ .NotIn := by decide) : behindInMarks op b = false := by
  have e1 : (op == CmpOp.In) = false := by cases op <;> first | rfl | exact absurd rfl h
  have e2 : (op == CmpOp.NotIn) = false := by cases op <;> first | rfl | exact absurd rfl h2
  cases b <;> simp [behindInMarks, e1, e2]
theorem pe_cmpR {op : CmpOp} {r : R2} (ho : OpR X (compareOp op) r) (ha : PE X a ta) (hb : PE X b tb) (hm : behindInMarks op b = false) : PE X (.Compare a [op] [b] pos) (tOp r ta tb) := by
  intro pins s σ H Q I h
  exact wpAny_Compare1 (binT ha hb I h fun v u s2 x y H2 I2 rx ry q => ho pins s2 σ H2 x y v u Q I2 rx ry q) hm
def tTest (t : TE) : TT := fun σ H Q => t σ H fun x H' => ∃ k, x = .bl k /\ Q k H'
theorem pt_cmpR {op : CmpOp} {r : R2} (ho : OpR X (compareOp op) r) (ha : PE X a ta) (hb : PE X b tb) (hm : behindInMarks op b = false) : PT X (.Compare a [op] [b] pos) (tTest (tOp r ta tb)) := by
  intro pins s σ H Q I h
  refine wpAny_isTrue_Compare1 (thn (ha pins s σ H _ I h) fun v s1 ⟨x, H1, I1, r1, q1⟩ => thn (hb pins s1 σ H1 _ I1 q1) fun u s2 ⟨y, H2, I2, r2, q2⟩ =>
    thn (ho pins s2 σ H2 x y v u _ I2 r1 r2 q2) fun c s3 ⟨z, H3, I3, r3, k, e, q3⟩ => ?_) hm
  subst e
  cases r3
  exact wpAny_truthy_bool ⟨H3, I3, q3⟩
def tChain (r r' : R2) (ta tb tc : TE) : TE := fun σ H Q => ta σ H fun x H1 => tb σ H1 fun y H2 => r x y H2 fun z H3 => ∃ k, z = .bl k /\
  (if k = true then tc σ H3 fun w' H4 => r' y w' H4 Q else Q (.bl false) H3)
theorem pe_chain {op op' : CmpOp} {r r' : R2} (ho : OpR X (compareOp op) r) (ho' : OpR X (compareOp op') r') (ha : PE X a ta) (hb : PE X b tb) (hc : PE X c tc)
    (hm : lastMarks [op, op'] [b, c] = false := by with_unfolding_all rfl) : PE X (.Compare a [op, op'] [b, c] pos) (tChain r r' ta tb tc) := by
  intro pins s σ H Q I h
  refine Compare_chain (thn (ha pins s σ H _ I h) fun v s1 ⟨x, H1, I1, r1, q1⟩ => chain_link (thn (hb pins s1 σ H1 _ I1 q1) fun u s2 ⟨y, H2, I2, r2, q2⟩ =>
    thn (ho pins s2 σ H2 x y v u _ I2 r1 r2 q2) fun d s3 ⟨z, H3, I3, r3, k, e, q3⟩ => ?_)) hm
  subst e
  cases r3
  refine wpAny_truthy_bool ?_
  cases k with
  | false => exact ite_ff ⟨.bl false, H3, I3, rfl, q3⟩
  | true => exact ite_tt (chain_last (thn (hc pins s3 σ H3 _ I3 q3) fun w' s4 ⟨z', H4, I4, r4, q4⟩ => ho' pins s4 σ H4 y z' u w' Q I4 r2 r4 q4))
theorem line63 : (sizeLine : Nat) < 2 ^ 63 := by rw [sizeLine_eq]; decide
theorem op_add_str : OpR X (binaryOp .Add) (fun x y H Q => ∃ i j, x = .str i /\ y = .str j /\ i.length + j.length <= sizeLine /\ Q (.str (i ++ j)) H) := by
  intro pins s σ H x y v u Q I rx ry h
  obtain ⟨i, j, rfl, rfl, hz, q⟩ := h
  obtain ⟨t, rfl⟩ := rx
  obtain ⟨t', rfl⟩ := ry
  exact add_str (fun t' tk => ⟨.str (i ++ j), H, I.tok _, ⟨_, rfl⟩, q⟩) hz
theorem vals1 {x : V} {us : List Value} (r : Vals [x] us) : ∃ u, us = [u] /\ RelV x u := by
  cases r with
  | cons r1 r2 => cases r2; exact ⟨_, rfl, r1⟩
theorem vals2 {x y : V} {us : List Value} (r : Vals [x, y] us) : ∃ u w', us = [u, w'] /\ RelV x u /\ RelV y w' := by
  cases r with
  | cons r1 r2 =>
    cases r2 with
    | cons r3 r4 => cases r4; exact ⟨_, _, rfl, r1, r3⟩
theorem call_min2 (hc : X.calm = true) : CallR X (.builtin "min") (fun xs H Q => ∃ i j, xs = [.int i, .int j] /\ Q (.int (if j < i then j else i)) H) := by
  intro pins s σ H xs us Q I r h
  obtain ⟨i, j, rfl, q⟩ := h
  obtain ⟨u, w', rfl, ⟨t, rfl⟩, ⟨t', rfl⟩⟩ := vals2 r
  refine min_two_ints (I.ok.hd hc) fun h' tk k => ⟨_, H, I.kept k, ?_, q⟩
  by_cases hj : j < i
  · rw [if_pos hj, if_pos hj]; exact ⟨_, rfl⟩
  · rw [if_neg hj, if_neg hj]; exact ⟨_, rfl⟩
theorem call_int1 : CallR X (.type "int") (fun xs H Q => (∃ i, xs = [.int i] /\ Q (.int i) H) \/ ∃ k, xs = [.bl k] /\ Q (.int (if k then 1 else 0)) H) := by
  intro pins s σ H xs us Q I r h
  rcases h with ⟨i, rfl, q⟩ | ⟨k, rfl, q⟩
  · obtain ⟨u, rfl, t, rfl⟩ := vals1 r
    exact call_int_int ⟨.int i, H, I, ⟨_, rfl⟩, q⟩
  · obtain ⟨u, rfl, r1⟩ := vals1 r
    cases r1
    exact call_int_bool ⟨.int (if k then 1 else 0), H, I.tok _, ⟨_, rfl⟩, q⟩
end
end L2
namespace L2
open PySem PySem.Spec PyProof.Rows
structure ObjM (h : Heap) (x dx C : Addr) (mA : Str -> Option Value) : Prop where
  obj : h.get? x = some (PySem.W.instObj C dx)
  ns : h.Ns1 dx mA
  ne : dx ≠ x
theorem lookIn_ns {h : Heap} {dx : Addr} {mA : Str -> Option Value} (n : h.Ns1 dx mA) : ∃ od, h.get? dx = some od /\ ∀ name, PySem.W.lookIn name od = some (mA name) := by
  obtain ⟨o, es, ep, ho, hd, hk, _, hm⟩ := n
  refine ⟨o, ho, fun name => ?_⟩
  have e := hm name
  unfold nsFind findBy at e
  rw [<- Array.find?_toList] at e
  unfold PySem.W.lookIn
  rw [hd]
  dsimp only
  split
  · rename_i y q
    rw [q] at e
    exact congrArg some e
  · rename_i q
    rw [q] at e
    have a : es.toList.any (·.refKey) = false := by
      rw [List.any_eq_false]
      intro y hy
      obtain ⟨z, t, hkey⟩ := hk y (Array.mem_toList_iff.mp hy)
      simp [DictEntry.refKey, hkey]
    have a' : ¬ es.toList.any (·.refKey) = true := by rw [a]; exact Bool.false_ne_true
    rw [if_neg a']
    exact congrArg some e
theorem ObjM.look {h : Heap} {x dx C : Addr} {mA : Str -> Option Value} (I : ObjM h x dx C mA) : ∃ od, PySem.W.InstAt h x (PySem.W.instObj C dx) C (some od) /\ ∀ name, PySem.W.lookIn name od = some (mA name) :=
  let ⟨od, ho, hl⟩ := lookIn_ns I.ns
  ⟨od, ⟨I.obj, rfl, rfl, ho⟩, hl⟩
section
variable {prog : Program} {w : World} {A : Around} {E : Value -> Shared -> Prop} {s : Shared} {K : PySem.W.Frag} {x dx C f : Addr} {mA : Str -> Option Value} {name : Str} {v : Value}
end
section
variable {P : Program} {w : World} {H H' : Hp} {h h' : Heap} {a C dx : Addr} {fs fs' : List (Str × V)}
theorem ins_get (hok : HOk P w H h) (e : H a = some (.ins C dx fs)) : ∃ mA, ObjM h a dx C mA /\ (∀ f, RelO (fs.lookup f) (mA f)) /\ PySem.Within mA (fs.map (·.1)) /\ fs.length <= 1000 /\ H dx = some (.own a) := by
  obtain ⟨d, z, ne, ob, mA, n, r, q⟩ := (show ObjOk P w H h a (.ins C dx fs) from hok a _ e)
  exact ⟨mA, ⟨ob, n, ne⟩, r, q, z, d⟩
end
structure Cls (K : PySem.W.Frag) (C : Addr) : Prop where
  pg : PySem.W.plainGet K C Str.empty = true
  hd : PySem.W.hasDictIn K C = true
  po : PySem.W.plainOver K C = true
  sa : PySem.W.findIn K (.ref C) "__setattr__" = some (some (.builtin "object.__setattr__"))
theorem Cls.get {K : PySem.W.Frag} {C : Addr} (c : Cls K C) (f : Str) : PySem.W.plainGet K C f = true := c.pg
section
variable {X : Cx} {pins : List (Addr × Obj)} {σ : St} {H : Hp} {s : Shared} {a C dx : Addr} {fs : List (Str × V)} {f : Str} {v : V} {A : Around} {E : Value -> Shared -> Prop}
theorem Inv.made (I : Inv X pins σ H s) : Inv X pins σ (upd (upd H s.heap.objs.size (.own (s.heap.objs.size + 1))) (s.heap.objs.size + 1) (.ins C s.heap.objs.size []))
    { s with heap := (s.heap.push PySem.W.emptyDict).push (PySem.W.instObj C s.heap.objs.size) } := by
  have e1 : (s.heap.push PySem.W.emptyDict).get? s.heap.objs.size = some PySem.W.emptyDict := Heap.get?_push_size s.heap rfl
  have e2 : ((s.heap.push PySem.W.emptyDict).push (PySem.W.instObj C s.heap.objs.size)).get? (s.heap.objs.size + 1) = some (PySem.W.instObj C s.heap.objs.size) := by
    have := Heap.get?_push_size (s.heap.push PySem.W.emptyDict) (o := PySem.W.instObj C s.heap.objs.size) rfl
    rwa [Heap.size_push] at this
  have e3 : (s.heap.push PySem.W.emptyDict).Ns s.heap.objs.size (fun _ => none) := ⟨PySem.W.emptyDict, #[], _, e1, rfl, (fun e he => absurd he (by simp)), fun _ => rfl⟩
  have I1 := I.laid (a := s.heap.objs.size) (o := .own (s.heap.objs.size + 1)) (h' := s.heap.push PySem.W.emptyDict) (t' := s.toks) (fun b u q => Heap.get?_push_of_some _ q) (Nat.le_refl _) ⟨_, e1⟩
  refine I1.laid (a := s.heap.objs.size + 1) (o := .ins C s.heap.objs.size []) (t' := s.toks) (fun b u q => Heap.get?_push_of_some _ q) (Nat.le_of_eq (Heap.size_push _ _)) ?_
  have ne : s.heap.objs.size ≠ s.heap.objs.size + 1 := Nat.ne_of_lt (Nat.lt_succ_self _)
  refine ⟨by rw [upd_ne ne, upd_same], Nat.zero_le _, ne, e2, fun _ => none, (Heap.Ns1.of_empty e3).at fun o q => Heap.get?_push_of_some _ q, fun _ => True.intro, fun y hy => absurd rfl hy⟩
end
section
variable {X : Cx} {o e value : Expr} {f : Str} {pos pos' tpos : Pos} {ta tv : TE}
end
section
variable {X : Cx} {pins : List (Addr × Obj)} {σ : St} {H : Hp} {s : Shared} {A : Around} {E : Value -> Shared -> Prop} {Q : Value -> Shared -> Prop} {c : Value} {b : Bool}
inductive TyOf (K : PySem.W.Frag) (H : Hp) : V -> Value -> Prop where
  | non : TyOf K H .non (.type "NoneType")
  | bl (x : Bool) : TyOf K H (.bl x) (.type "bool")
  | int (i : Int) : TyOf K H (.int i) (.type "int")
  | str (x : Str) : TyOf K H (.str x) (.type "str")
  | flt (x : UInt64) : TyOf K H (.flt x) (.type "float")
  | lst {a : Addr} {xs : List V} (e : H a = some (.lst xs)) : TyOf K H (.ref a) (.type "list")
  | frz {a : Addr} {o : Obj} {xs : List V} (e : H a = some (.frz o (.lst xs))) : TyOf K H (.ref a) (.type "list")
  | tup {a : Addr} {xs : List V} (e : H a = some (.tup xs)) : TyOf K H (.ref a) (.type "tuple")
  | dK {a : Addr} {kvs : List (Key × V)} (e : H a = some (.dK kvs)) : TyOf K H (.ref a) (.type "dict")
  | dT {a : Addr} {kvs : List (List Key × V)} (e : H a = some (.dT kvs)) : TyOf K H (.ref a) (.type "dict")
  | ins {a C dx : Addr} {fs : List (Str × V)} (e : H a = some (.ins C dx fs)) (cl : Cls K C) (ha : PySem.W.findIn K (.ref C) "__class__" = some (some (.builtin "object.__class__")))
      (hn : PySem.W.specialIn K (.builtin "object.__class__") "__get__" = some (some (.builtin "getset_descriptor.__get__"))) (htk : PySem.W.takesIn K (.builtin "object.__class__") = some true)
      (hm : PySem.W.mroIn K C (.type "object") = some true) : TyOf K H (.ref a) (.ref C)
theorem isinst_ok {x : V} {u t : Value} (I : Inv X pins σ H s) (rx : RelV x u) (ty : TyOf X.K H x t) (e : PySem.W.kitOne X.K t c = some b) (h : ∀ tk, Q (.bool b) { s with toks := tk }) :
    wpAny (model X.prog X.w) A (call (.builtin "isinstance") [u, c]) Q E s := by
  cases ty with
  | non => cases (show u = Value.none from rx); exact PySem.W.kia_one PySem.W.kitx_none I.kIn True.intro e (fun z => nomatch z) h
  | bl y => cases (show u = Value.bool y from rx); exact PySem.W.kia_one PySem.W.kitx_bool I.kIn True.intro e (fun z => nomatch z) h
  | int i => obtain ⟨t, q⟩ := (show ∃ t, u = Value.int i t from rx); cases q; exact PySem.W.kia_one PySem.W.kitx_int I.kIn True.intro e (fun z => nomatch z) h
  | str y => obtain ⟨t, q⟩ := (show ∃ t, u = Value.str y t from rx); cases q; exact PySem.W.kia_one PySem.W.kitx_str I.kIn True.intro e (fun z => nomatch z) h
  | flt y => obtain ⟨t, q⟩ := (show ∃ t, u = Value.float y t from rx); cases q; exact PySem.W.kia_one PySem.W.kitx_float I.kIn True.intro e (fun z => nomatch z) h
  | @lst a xs ea =>
    cases (show u = Value.ref a from rx)
    obtain ⟨_, _, n, _, h1⟩ := (show ObjOk X.prog X.w H s.heap a (.lst xs) from I.hok a _ ea)
    exact PySem.W.kia_one PySem.W.kitx_list I.kIn ⟨_, h1, rfl⟩ e (fun z => nomatch z) h
  | @frz a ob xs ea =>
    cases (show u = Value.ref a from rx)
    obtain ⟨_, _, _, n, _, h1⟩ := (show ObjOk X.prog X.w H s.heap a (.frz ob (.lst xs)) from I.hok a _ ea)
    exact PySem.W.kia_one PySem.W.kitx_list I.kIn ⟨_, h1, rfl⟩ e (fun z => nomatch z) h
  | @tup a xs ea =>
    cases (show u = Value.ref a from rx)
    obtain ⟨_, _, _, p⟩ := (show ObjOk X.prog X.w H s.heap a (.tup xs) from I.hok a _ ea)
    obtain ⟨o, h1, h2, _⟩ := p
    exact PySem.W.kia_one PySem.W.kitx_tuple I.kIn ⟨o, h1, h2⟩ e (fun z => nomatch z) h
  | @dK a kvs ea =>
    cases (show u = Value.ref a from rx)
    obtain ⟨_, _, vs, _, p⟩ := (show ObjOk X.prog X.w H s.heap a (.dK kvs) from I.hok a _ ea)
    obtain ⟨o, es, ep, h1, h2, _⟩ := p
    exact PySem.W.kia_one PySem.W.kitx_dict I.kIn ⟨o, h1, h2.1⟩ e (fun z => nomatch z) h
  | @dT a kvs ea =>
    cases (show u = Value.ref a from rx)
    obtain ⟨_, _, xs, _, o, es, ep, h1, h2, _⟩ := (show ObjOk X.prog X.w H s.heap a (.dT kvs) from I.hok a _ ea)
    exact PySem.W.kia_one PySem.W.kitx_dict I.kIn ⟨o, h1, h2.1⟩ e (fun z => nomatch z) h
  | @ins a C dx fs ea cl ha hn htk hm =>
    cases (show u = Value.ref a from rx)
    obtain ⟨mA, O, _⟩ := ins_get I.hok ea
    obtain ⟨od, J, _⟩ := O.look
    exact PySem.W.kia_one (PySem.W.kitx_own (cl.get _) cl.hd ha hn htk hm) I.kIn J e (fun z => nomatch z) h
end
end L2
namespace L2
open PySem PySem.Spec PyProof.Rows
structure Room (k : Nat) (A : Around) : Prop where
  hd : A.handled = none
  dp : A.depth + 2 * k + 5 < recursionLimit
  un : A.units + 16 * k + 200 < cLine
theorem Room.mono {j k : Nat} {A : Around} (r : Room k A) (h : j <= k) : Room j A := ⟨r.hd, by have := r.dp; omega, by have := r.un; omega⟩
theorem Room.deeper {k : Nat} {A : Around} (r : Room (k + 1) A) (env : Env) : Room k (A.deeper env) :=
  ⟨r.hd, by have := r.dp; show A.depth + 1 + 2 * k + 5 < _; omega, by have := r.un; show A.units + 3 + 16 * k + 200 < _; omega⟩
theorem Room.in1 {k : Nat} {A : Around} (r : Room (k + 1) A) : Room k A.in1 :=
  ⟨r.hd, by have := r.dp; show A.depth + 2 * k + 5 < _; omega, by have := r.un; show A.units + 1 + 16 * k + 200 < _; omega⟩
theorem Room.depth {k : Nat} {A : Around} (r : Room k A) : A.depth < recursionLimit := by have := r.dp; omega
theorem Room.units {k : Nat} {A : Around} (r : Room k A) : A.units + 64 < cLine := by have := r.un; omega
def tNil : TA := fun _ H Q => Q [] H
def tCons (ta : TE) (tr : TA) : TA := fun σ H Q => ta σ H fun x H1 => tr σ H1 fun xs H2 => Q (x :: xs) H2
section
variable {X : Cx} {e : Expr} {es : List Expr} {te : TE} {t : TA} {pos : Pos}
theorem pa_nil : PA X [] tNil := fun _ _ _ _ H Q I h => Calls.spliced_nil ⟨[], H, I, .nil, h⟩
theorem pa_cons (ha : PE X e te) (hr : PA X es t) (hs : starEach (e :: es) X.env = (false, eval e X.env) :: starEach es X.env := by rfl) : PA X (e :: es) (tCons te t) := by
  intro pos pins s σ H Q I h
  rw [hs]
  show wpAny _ _ (spliced ((false, eval e X.env) :: backTo pos (starEach es X.env))) _ _ s
  refine Calls.spliced_cons (thn (ha pins s σ H _ I h) fun u s1 ⟨x, H1, I1, r1, q1⟩ => ?_)
  exact thn (hr pos pins s1 σ H1 _ I1 q1) fun us s2 ⟨xs, H2, I2, r2, q2⟩ => ⟨x :: xs, H2, I2, .cons r1 r2, q2⟩
end
abbrev Sp := List V -> Hp -> VK -> XK -> Prop
abbrev CXT := List Env -> Hp -> Shared -> XK -> Value -> Shared -> Prop
structure Env0 (P : Program) (w : World) (K : PySem.W.Frag) (mg : Str -> Option Value) (base : Heap) (A : Around) (outer : List Env) (s : Shared) (H : Hp) : Prop where
  frames : A.frames = some outer
  mod : Mod K mg base
  bs : ∀ b o, base.get? b = some o -> s.heap.get? b = some o /\ H b = none
  bsz : base.objs.size <= s.heap.objs.size
  funs : s.heap.FunFrames base outer
  frf : ∀ b ∈ frs outer, H b = none
  hok : HOk P w H s.heap
  bare : AllBare s.gens
def CE (outer : List Env) (P : Program) (w : World) (H : Hp) (s : Shared) (Q : VK) (u : Value) (s' : Shared) : Prop :=
  ∃ v H', s'.os = s.os /\ AllBare s'.gens /\ Un (frs outer) [] H H' s.heap s'.heap /\ HOk P w H' s'.heap /\ RelV v u /\ Q v H'
def CR (CX : CXT) (outer : List Env) (P : Program) (w : World) (H : Hp) (s : Shared) (Q : VK) (E : XK) (r : Result) (s' : Shared) : Prop :=
  match r with
  | .ok (.ret u) => CE outer P w H s Q u s'
  | .ok _ => False
  | .error e => CX outer H s E e s'
structure FnOk (P : Program) (w : World) (K : PySem.W.Frag) (mg : Str -> Option Value) (base : Heap) (CX : CXT) (k : Nat) (f : Addr) (fd : FuncData) (ps : List Str) (sp : Sp) : Prop where
  len : ∀ vs H Q E, sp vs H Q E -> vs.length = ps.length
  run : ∀ (A : Around) (outer : List Env) (s : Shared) (H : Hp) (args : Args) (us : List Value) (vs : List V) (Q : VK) (E : XK), Room k A -> Env0 P w K mg base A outer s H -> BindsTo s fd args (ps.zip us) -> Vals vs us -> sp vs H Q E ->
    codeAny (model P w) A (.call (.ref f) args) (CR CX outer P w H s Q E) s
theorem FnOk.mono {P : Program} {w : World} {K : PySem.W.Frag} {mg : Str -> Option Value} {base : Heap} {CX : CXT} {j k : Nat} {f : Addr} {fd : FuncData} {ps : List Str} {sp : Sp} (F : FnOk P w K mg base CX j f fd ps sp) (h : j <= k) :
    FnOk P w K mg base CX k f fd ps sp := ⟨F.len, fun A outer s H args us vs Q E hr => F.run A outer s H args us vs Q E (hr.mono h)⟩
theorem FnOk.imp {P : Program} {w : World} {K : PySem.W.Frag} {mg : Str -> Option Value} {base : Heap} {CX : CXT} {k : Nat} {f : Addr} {fd : FuncData} {ps : List Str} {sp sp' : Sp} (F : FnOk P w K mg base CX k f fd ps sp)
    (h : ∀ vs H Q E, sp' vs H Q E -> sp vs H Q E) : FnOk P w K mg base CX k f fd ps sp' :=
  ⟨fun vs H Q E q => F.len vs H Q E (h _ _ _ _ q), fun A outer s H args us vs Q E hr he hb hv hs => F.run A outer s H args us vs Q E hr he hb hv (h _ _ _ _ hs)⟩
theorem Env0.in1 {P : Program} {w : World} {K : PySem.W.Frag} {mg : Str -> Option Value} {base : Heap} {A : Around} {outer : List Env} {s : Shared} {H : Hp} (e : Env0 P w K mg base A outer s H) :
    Env0 P w K mg base A.in1 outer s H := ⟨e.frames, e.mod, e.bs, e.bsz, e.funs, e.frf, e.hok, e.bare⟩
section
variable {X : Cx} {pins : List (Addr × Obj)} {σ : St} {H : Hp} {s s' : Shared}
theorem Inv.env0 (I : Inv X pins σ H s) : Env0 X.prog X.w X.K X.mg X.base X.A X.stack s H :=
  ⟨I.ok.frames, I.ok.mod, I.bs, Nat.le_trans I.ok.bsz I.sz, I.stack, I.stkFree, I.hok, I.bare⟩
theorem Inv.after {Q : VK} {u : Value} (I : Inv X pins σ H s) (h : CE X.stack X.prog X.w H s Q u s') : EP X pins σ Q u s' := by
  obtain ⟨v, H', os, bare, un, hok, r, q⟩ := h
  obtain ⟨hh, g, d, t, os'⟩ := s'
  obtain rfl : os' = s.os := os
  exact ⟨v, H', I.call (h' := hh) (g' := g) (d' := d) (t' := t) (ch := []) un hok bare (fun b z => absurd z (by simp)), r, q⟩
end
def Binds (K : PySem.W.Frag) (fd : FuncData) (ps : List Str) (ds : List Value) : Prop :=
  ∀ (s : Shared) (us : List Value), K.In s.heap -> (us ++ ds).length = ps.length -> BindsTo s fd ⟨us, []⟩ (ps.zip (us ++ ds))
theorem Binds.all {K : PySem.W.Frag} {fd : FuncData} {ps : List Str} (h : ∀ us : List Value, us.length = ps.length -> bindArgs fd ⟨us, []⟩ = pure (ps.zip us)) : Binds K fd ps [] := fun s us _ hl => by
  rw [List.append_nil] at hl ⊢
  exact .of_eq (h us hl)
section
variable {X : Cx} {CX : CXT} {k : Nat} {f C : Addr} {fd : FuncData} {ps : List Str} {sp : Sp} {dvs : List V} {ds : List Value} {E : XK} {x m : Str} {p pos apos : Pos} {e o : Expr} {es : List Expr} {ta : TE} {t : TA}
end
section
variable {X : Cx} {CX : CXT} {k : Nat} {f C : Addr} {fd : FuncData} {ps ks : List Str} {sp : Sp} {E : XK} {x m : Str} {p pos apos kpos : Pos} {e o : Expr} {es : List Expr} {kws : List Keyword} {te ta : TE} {t tk : TA} {nm : Option Str}
variable {g : List Value -> List Value -> List Value} {gV : List V -> List V -> List V}
end
structure FnScope (N P : List Str) (sc : Scope) : Prop where
  kind : sc.kind = .function
  co : sc.isCoroutine = false
  gen : sc.isGenerator = false
  nd : N.Nodup
  pre : N.take P.length = P
  par : ∀ x ∈ P, sc.names.lookup x = some .local \/ sc.names.lookup x = some .cell
  nofree : ∀ y ∈ sc.names, y.2 ≠ .free
theorem bindL_out {kindOf : Str -> Option NameKind} {x : Str} : ∀ {binds : List (Str × Value)} {m : Str -> Option Value}, (∀ v, (x, v) ∉ binds) -> bindL kindOf binds m x = m x
  | [], _, _ => rfl
  | (n, v) :: r, m, h => by
    unfold bindL
    rw [bindL_out fun w hw => h w (List.mem_cons_of_mem _ hw)]
    split
    · have : x ≠ n := by rintro rfl; exact h v List.mem_cons_self
      simp [this]
    · rfl
theorem bindC_out {kindOf : Str -> Option NameKind} {x : Str} : ∀ {binds : List (Str × Value)} {m : Str -> Option Value}, (∀ v, (x, v) ∉ binds) -> bindC kindOf binds m x = m x
  | [], _, _ => rfl
  | (n, v) :: r, m, h => by
    unfold bindC
    rw [bindC_out fun w hw => h w (List.mem_cons_of_mem _ hw)]
    split
    · rfl
    · have : x ≠ n := by rintro rfl; exact h v List.mem_cons_self
      simp [this]
theorem bindL_get {kindOf : Str -> Option NameKind} {x : Str} {v : Value} : ∀ {P : List Str} {vs : List Value} {i : Nat} {m : Str -> Option Value}, P.Nodup -> P[i]? = some x -> vs[i]? = some v -> kindOf x = some .local ->
    bindL kindOf (P.zip vs) m x = some v
  | [], _, _, _, _, h, _, _ => by simp at h
  | _ :: _, [], _, _, _, _, h, _ => by simp at h
  | p :: P, w :: vs, 0, m, nd, h1, h2, hk => by
    simp at h1 h2; subst h1; subst h2
    show bindL kindOf ((p, w) :: P.zip vs) m p = _
    unfold bindL
    rw [bindL_out fun v hv => (List.nodup_cons.mp nd).1 (List.of_mem_zip hv).1, if_pos hk]
    simp
  | p :: P, w :: vs, i + 1, m, nd, h1, h2, hk => by
    show bindL kindOf ((p, w) :: P.zip vs) m x = _
    unfold bindL
    exact bindL_get (i := i) (List.nodup_cons.mp nd).2 (by simpa using h1) (by simpa using h2) hk
theorem bindC_get {kindOf : Str -> Option NameKind} {x : Str} {v : Value} : ∀ {P : List Str} {vs : List Value} {i : Nat} {m : Str -> Option Value}, P.Nodup -> P[i]? = some x -> vs[i]? = some v -> kindOf x ≠ some .local ->
    bindC kindOf (P.zip vs) m x = some v
  | [], _, _, _, _, h, _, _ => by simp at h
  | _ :: _, [], _, _, _, _, h, _ => by simp at h
  | p :: P, w :: vs, 0, m, nd, h1, h2, hk => by
    simp at h1 h2; subst h1; subst h2
    show bindC kindOf ((p, w) :: P.zip vs) m p = _
    unfold bindC
    rw [bindC_out fun v hv => (List.nodup_cons.mp nd).1 (List.of_mem_zip hv).1, if_neg hk]
    simp
  | p :: P, w :: vs, i + 1, m, nd, h1, h2, hk => by
    show bindC kindOf ((p, w) :: P.zip vs) m x = _
    unfold bindC
    exact bindC_get (i := i) (List.nodup_cons.mp nd).2 (by simpa using h1) (by simpa using h2) hk
def start (N : List Str) (vs : List V) : St := vs.map some ++ List.replicate (N.length - vs.length) none
def cxOf (CX : CXT) (P : Program) (w : World) (K : PySem.W.Frag) (mg : Str -> Option Value) (base : Heap) (N : List Str) (qual : Str) (scope : Scope) (f : Addr) (cd : Value) (A : Around) (outer : List Env) (s : Shared) (H : Hp) (E : XK) : Cx where
  prog := P
  w := w
  K := K
  mg := mg
  base := base
  A := A.deeper (envOfC qual scope s.heap.objs.size f cd)
  N := N
  s₀ := s
  H₀ := H
  env := envOfC qual scope s.heap.objs.size f cd
  outer := outer
  stack := envOfC qual scope s.heap.objs.size f cd :: outer
  ex := []
  calm := true
  fn := fun _ => true
  pn := []
  xe := fun e s' => wpAny (model P w) (A.deeper (envOfC qual scope s.heap.objs.size f cd)) (leaving (envOfC qual scope s.heap.objs.size f cd) e) (fun _ s'' => CX outer H s E e s'') (fun e' s'' => CX outer H s E e' s'') s'
theorem cell_has {sc : Scope} {n : Nat} {x : Str} (h : sc.names.lookup x = some .cell) : ∃ c, (cellsFrom n sc.names []).lookup x = some c := by
  have q := PySem.W.cellsFrom_some sc.names n [] (.inl h)
  exact Option.isSome_iff_exists.mp q
theorem inv_start {CX : CXT} {P : Program} {w : World} {K : PySem.W.Frag} {mg : Str -> Option Value} {base : Heap} {N ps : List Str} {qual : Str} {scope : Scope} {f : Addr} {cd : Value} {A : Around} {outer : List Env} {s s1 : Shared} {H : Hp} {E : XK} {us : List Value} {vs : List V}
    (S : FnScope N ps scope) (hd : A.handled = none) (e0 : Env0 P w K mg base A outer s H) (hl : vs.length = ps.length) (r : Vals vs us)
    (x : InCallC s s.heap.objs.size (bindL (envOfC qual scope s.heap.objs.size f cd).kindOf (ps.zip us) fun _ => none) (cellsFrom (s.heap.objs.size + 1) scope.names []) (bindC (envOfC qual scope s.heap.objs.size f cd).kindOf (ps.zip us) fun _ => none) s1) :
    Inv (cxOf CX P w K mg base N qual scope f cd A outer s H E) [] (start N vs) H s1 := by
  have hpl : ps.length <= N.length := by have := congrArg List.length S.pre; rw [List.length_take] at this; omega
  obtain ⟨h1, tk, rfl, hk⟩ := x.done
  have noA : ∀ b : Addr, b ∉ (cxOf CX P w K mg base N qual scope f cd A outer s H E).ex := fun b z => absurd (show b ∈ ([] : List Addr) from z) (by simp)
  refine ⟨⟨e0.mod, S.kind, rfl, rfl, Nat.le_refl _, fun y z c h1 h2 => ?_, fun y hy => ?_, fun y c _ h => ?_, fun _ => hd, Around.frames_deeper e0.frames, .inr ⟨rfl, rfl⟩, fun b z => absurd z (noA b), e0.bs, e0.bsz, fun b _ _ => noA b, fun b z => absurd z (noA b), e0.funs, e0.frf⟩,
    rfl, e0.bare, Un.kept hk, ⟨_, x.toInCall.ns, fun i y v h1 h2 h3 => ?_⟩, fun y c h => ⟨_, x.cell y c h⟩, e0.hok.fresh (Nat.le_refl _), fun y c h => ?_, fun p hp => absurd (show p ∈ ([] : List (Addr × Obj)) from hp) (by simp), e0.hok.kept hk, ?_⟩
  · exact name_of_addr x.apart (PySem.mem_of_lookup h1) (PySem.mem_of_lookup h2)
  · have hy : scope.names.lookup y = some .cell \/ scope.names.lookup y = some .free := hy
    rcases hy with hy | hy
    · exact cell_has hy
    · exact absurd rfl (S.nofree _ (PySem.mem_of_lookup hy))
  · exact Nat.le_of_lt (x.above y c (PySem.mem_of_lookup h))
  · have hi : i < vs.length := by
      unfold start at h2
      by_cases hi : i < vs.length
      · exact hi
      · rw [List.getElem?_append_right (by simpa using hi)] at h2
        rw [List.getElem?_replicate] at h2
        split at h2 <;> cases h2
    have ha : vs[i]? = some v := by
      unfold start at h2
      rw [List.getElem?_append_left (by simpa using hi), List.getElem?_map] at h2
      cases e : vs[i]? with
      | none => rw [e] at h2; cases h2
      | some a => rw [e] at h2; cases h2; rfl
    obtain ⟨u, hu, rv⟩ := r.get ha
    have hp : ps[i]? = some y := by
      rw [<- S.pre, List.getElem?_take_of_lt (by omega)]; exact h1
    have ndP : ps.Nodup := by rw [<- S.pre]; exact S.nd.sublist (List.take_sublist _ _)
    refine ⟨u, rv, ?_⟩
    rcases S.par y (List.mem_of_getElem? hp) with k | k
    · exact .inl ⟨k, bindL_get ndP hp hu k⟩
    · obtain ⟨c, e⟩ := cell_has (n := s.heap.objs.size + 1) k
      refine .inr ⟨.inl k, c, e, ?_⟩
      have q := x.cell y c e
      rw [bindC_get ndP hp hu (by show scope.names.lookup y ≠ _; rw [k]; decide)] at q
      exact q
  · exact e0.hok.fresh (Nat.le_of_lt (x.above y c (PySem.mem_of_lookup h)))
  · unfold start
    show _ = N.length
    rw [List.length_append, List.length_map, List.length_replicate]
    omega
theorem fn_of {CX : CXT} {P : Program} {w : World} {K : PySem.W.Frag} {mg : Str -> Option Value} {base : Heap} {k : Nat} {f : Addr} {name qual : Str} {params : Arguments} {body : List Stmt} {scope : Scope} {dV kV doc pm cdv ct oc : Value} {an od : Option Addr}
    {osl : Array (Option Value)} {N ps : List Str} {sp : Sp} (lk : K.lookup f = some ⟨oc, od, .func (PySem.W.fnOf name qual params body scope dV kV doc pm an cdv ct), osl⟩) (hcd : PySem.W.codeIn K cdv qual = true) (S : FnScope N ps scope)
    (len : ∀ vs H Q E, sp vs H Q E -> vs.length = ps.length)
    (hbody : ∀ (A : Around) (outer : List Env) (s : Shared) (H : Hp) (vs : List V) (Q : VK) (E : XK), Room k (A.deeper (envOfC qual scope s.heap.objs.size f cdv)) -> sp vs H Q E ->
      ∃ t, PSs (cxOf CX P w K mg base N qual scope f cdv A outer s H E) body t /\ t { nx := fun _ H' => Q .non H', rt := Q } (start N vs) H) :
    FnOk P w K mg base CX (k + 1) f (PySem.W.fnOf name qual params body scope dV kV doc pm an cdv ct) ps sp := by
  refine ⟨len, fun A outer s H args us vs Q E hr e0 hb r hsp => ?_⟩
  have hl := len _ _ _ _ hsp
  have KX : K.In s.heap := e0.mod.kin.keeps fun b o e => (e0.bs b o e).1
  have lim : s.heap.NoLimit := e0.mod.nolimit.keeps fun b o e => (e0.bs b o e).1
  have hkind : ∀ y ∈ ps.zip us, scope.names.lookup y.1 = some .local \/ (scope.names.lookup y.1 = some .cell /\ ((cellsFrom (s.heap.objs.size + 1) scope.names []).lookup y.1).isSome = true) := fun ⟨n, v⟩ hy => by
    rcases S.par n (List.of_mem_zip hy).1 with q | q
    · exact .inl q
    · exact .inr ⟨q, PySem.W.cellsFrom_some _ _ _ (.inl q)⟩
  refine codeAny_call_function hr.depth (KX _ _ lk) rfl S.co S.gen rfl (PySem.W.codeRec_of KX hcd) (hb _ _ _ _ ?_)
  refine wpAny_newFunctionEnv_cells S.kind hkind fun env he s1 x => ?_
  subst he
  refine ⟨lim.keeps x.toInCall.keep, codeAny_func ?_⟩
  obtain ⟨t, ht, hq⟩ := hbody A outer s H vs Q E (hr.deeper _) hsp
  have I : Inv (cxOf CX P w K mg base N qual scope f cdv A outer s H E) [] (start N vs) H s1 := inv_start S hr.hd e0 hl r x
  refine wpAny_mono (ht [] s1 (start N vs) H _ I hq) (fun fl s' hs => ?_) fun e s' hs => hs
  have fin : ∀ {σ' : St} {H' : Hp} {v : V} {u : Value}, Inv (cxOf CX P w K mg base N qual scope f cdv A outer s H E) [] σ' H' s' -> RelV v u -> Q v H' -> CE outer P w H s Q u s' :=
    fun {σ' H' v u} J rv q => ⟨v, H', J.os, J.bare, J.base, J.hok, rv, q⟩
  cases fl with
  | ret u =>
    obtain ⟨v, σ', H', J, rv, q⟩ := hs
    exact fin J rv q
  | next =>
    obtain ⟨σ', H', J, q⟩ := hs
    exact fin (v := V.non) (u := Value.none) J rfl q
  | brk =>
    obtain ⟨_, _, _, q⟩ := hs
    exact False.elim q
  | cont =>
    obtain ⟨_, _, _, q⟩ := hs
    exact False.elim q
end L2
namespace L2
open PySem PySem.Spec PyProof.Rows
section
variable {X : Cx} {x : Str} {p pos : Pos} {e : Expr} {es : List Expr} {t : TA} {id T : String} {r : List V -> Hp -> VK -> Prop}
def tCB (r : List V -> Hp -> VK -> Prop) (t : TA) : TE := fun σ H Q => t σ H fun vs H1 => r vs H1 Q
theorem pe_callB (hc : CallR X (.builtin id) r) (hg : Gl X x) (hm : X.mg x = none) (hv : bootBuiltins x = some (.builtin id)) (ha : PA X (e :: es) t) (hn : x ≠ "__name__" := by decide) (hdb : (x == ("__debug__" : Str)) = false := by decide)
    (he : starEach (e :: es) X.env = (false, eval e X.env) :: starEach es X.env := by rfl) (hpl : (backTo pos (starEach es X.env)).any (·.1) = false := by rfl) : PE X (.Call (.Name x p) (e :: es) [] pos) (tCB r t) := by
  intro pins s σ H Q I h
  refine wpAny_Call_Name_kw (ld_blt I hg hm hv ?_ hn hdb)
  exact PyProof.Rows.callWith_builtin1 (thn (ha pos pins s σ H _ I h) fun us s1 ⟨vs, H1, I1, r1, q1⟩ => hc pins s1 σ H1 vs us Q I1 r1 q1) he hpl
theorem pe_callTy (hc : CallR X (.type T) r) (hg : Gl X x) (hm : X.mg x = none) (hv : bootBuiltins x = some (.type T)) (ha : PA X (e :: es) t) (hn : x ≠ "__name__" := by decide) (hdb : (x == ("__debug__" : Str)) = false := by decide)
    (he : starEach (e :: es) X.env = (false, eval e X.env) :: starEach es X.env := by rfl) (hpl : (backTo pos (starEach es X.env)).any (·.1) = false := by rfl) : PE X (.Call (.Name x p) (e :: es) [] pos) (tCB r t) := by
  intro pins s σ H Q I h
  refine wpAny_Call_Name_kw (ld_blt I hg hm hv ?_ hn hdb)
  exact PyProof.Rows.callWith_type1 (thn (ha pos pins s σ H _ I h) fun us s1 ⟨vs, H1, I1, r1, q1⟩ => hc pins s1 σ H1 vs us Q I1 r1 q1) he hpl
end
end L2
namespace HT
open PySem PyProof.Rows
section
open PySem.SeqAt
open PySem.AutoSeq1 (wpAny_loadPart')
open PySem.MeetsSeq PySem.MeetsSeq2 PySem.MeetsSeq3
end
section
variable {prog : Program} {w : World} {A : Around} {E : Value -> Shared -> Prop} {s : Shared}
theorem cat_tup {t b : Addr} {vs ws : List Value} {Q : Value -> Shared -> Prop} (ht : IsTup s.heap t vs.toArray) (hb : IsTup s.heap b ws.toArray) (hv : vs ≠ [])
    (h1 : ws = [] -> Q (.ref t) s) (h2 : ws ≠ [] -> Q (.ref s.heap.objs.size) { s with heap := s.heap.push { cls := .type "tuple", data := .seq (vs ++ ws).toArray } })
    (hsz : vs.length + ws.length <= sizeLine) : wpAny (model prog w) A (binaryOp .Add (.ref t) (.ref b)) Q E s := by
  obtain ⟨⟨cls, dd, data, sl⟩, ho, hc, n, hd⟩ := id ht
  obtain ⟨⟨cls2, dd2, data2, sl2⟩, ho2, hc2, n2, hd2⟩ := id hb
  simp only at hc hd hc2 hd2
  subst hc hd hc2 hd2
  have e : vs.toArray ++ ws.toArray = (vs ++ ws).toArray := by simp
  by_cases hw : ws = []
  · exact concat_meets ⟨_, ho, rfl⟩ ⟨_, ho2, rfl⟩ noFill_tuple_add seq_tuple_add PySem.F.slot_tuple_add PySem.F.entry_tuple_add (PySem.F.args_tuple_add_2 _ _)
      (tuple_addW1 t b vs.toArray ws.toArray n n2 dd dd2 sl sl2 (by simpa using hv) (by simp [hw])) ⟨ho, ho2, h1 hw⟩
  · refine concat_meets ⟨_, ho, rfl⟩ ⟨_, ho2, rfl⟩ noFill_tuple_add seq_tuple_add PySem.F.slot_tuple_add PySem.F.entry_tuple_add (PySem.F.args_tuple_add_2 _ _)
      (tuple_addW2 t b vs.toArray ws.toArray n n2 dd dd2 sl sl2 (by simpa using hv) (by simpa using hw) (by rw [List.size_toArray, List.size_toArray]; exact hsz)) ⟨ho, ho2, ?_⟩
    rw [e]
    exact h2 hw
def sIx (n d : Nat) : Option Int -> Nat
  | none => d
  | some v => if v < 0 then (v + (n : Int)).toNat else min v.toNat n
theorem sIx_none (n d : Nat) : sIx n d none = d := rfl
theorem sIx_nat (n d k : Nat) : sIx n d (some (k : Int)) = min k n := by
  show (if (k : Int) < 0 then ((k : Int) + (n : Int)).toNat else min (k : Int).toNat n) = min k n
  rw [if_neg (by omega), Int.toNat_natCast]
theorem sIx_le (n d : Nat) (hd : d <= n) (o : Option Int) : sIx n d o <= n := by
  cases o with
  | none => exact hd
  | some v =>
    show (if v < 0 then (v + (n : Int)).toNat else min v.toNat n) <= n
    by_cases hv : v < 0
    · rw [if_pos hv]; omega
    · rw [if_neg hv]; exact Nat.min_le_right _ _
theorem clip_eq (v : Int) (n d : Nat) : (if v < 0 then max (v + (n : Int)) 0 else min v (n : Int)) = ((sIx n d (some v) : Nat) : Int) := by
  show (if v < 0 then max (v + (n : Int)) 0 else min v (n : Int)) = (((if v < 0 then (v + (n : Int)).toNat else min v.toNat n) : Nat) : Int)
  by_cases hv : v < 0
  · simp only [if_pos hv]; omega
  · simp only [if_neg hv]; omega
theorem adjust_gen (lo hi : Option Int) (n : Nat) : Builtin.Slice.sliceAdjust lo hi 1 (n : Int) = (((sIx n 0 lo : Nat) : Int), ((sIx n n hi : Nat) : Int)) := by
  have h1 : ¬ ((1 : Int) < 0) := by omega
  unfold Builtin.Slice.sliceAdjust
  simp only [h1, if_false]
  refine Prod.ext ?_ ?_
  · cases lo with
    | none => rfl
    | some v => exact clip_eq v n 0
  · cases hi with
    | none => rfl
    | some v => exact clip_eq v n n
theorem places_gen (i j : Nat) : Builtin.Slice.slicePlaces (i : Int) (j : Int) 1 = j - i := by
  unfold Builtin.Slice.slicePlaces
  have h1 : (1 : Int) > 0 := by omega
  simp only [h1, if_true, Int.ediv_one]
  split <;> omega
theorem slicePart_ {v : Value} {o : Option Int} {Q : Option Int -> Shared -> Prop} (p : IsPart v o) (h : Q o s) : wpAny (model prog w) A (Builtin.Slice.slicePartIndex v) Q E s := by
  cases p with
  | none => exact slicePart_none h
  | int i t => exact slicePart_int h
theorem sliceApplied_gen {sl : Addr} {vl vu : Value} {lo hi : Option Int} {n : Nat} {Q : Int × Int × Nat -> Shared -> Prop} (hs : s.heap.IsSliceOf sl vl vu .none) (pl : IsPart vl lo) (pu : IsPart vu hi)
    (h : Q (((sIx n 0 lo : Nat) : Int), 1, sIx n n hi - sIx n 0 lo) s) : wpAny (model prog w) A (Builtin.Slice.sliceApplied (.ref sl) (pure (n : Int))) Q E s := by
  obtain ⟨os, hos, hcs, hds⟩ := id hs
  unfold Builtin.Slice.sliceApplied Builtin.Slice.sliceFields
  refine wpAny_bind (wpAny_bind (wpAny_field hos hds (x := vl) rfl (wpAny_bind (wpAny_field hos hds (x := vu) rfl (wpAny_bind (wpAny_field hos hds (x := .none) rfl (wpAny_pure ?_)))))))
  refine wpAny_bind (slicePart_none ?_)
  show wpAny _ _ (if ((1 : Int) == 0) = true then _ else _) _ _ s
  rw [if_neg (by decide)]
  refine wpAny_bind (slicePart_ pl (wpAny_bind (slicePart_ pu (wpAny_bind (wpAny_pure ?_)))))
  show wpAny _ _ (match Builtin.Slice.sliceAdjust lo hi 1 (n : Int) with | (lo, hi) => pure (lo, (1 : Int), Builtin.Slice.slicePlaces lo hi 1)) _ _ s
  rw [adjust_gen lo hi n]
  show wpAny _ _ (pure (((sIx n 0 lo : Nat) : Int), (1 : Int), Builtin.Slice.slicePlaces ((sIx n 0 lo : Nat) : Int) ((sIx n n hi : Nat) : Int) 1)) _ _ s
  rw [places_gen]
  exact wpAny_pure h
theorem pick_gen (xs : Array Value) (i k : Nat) : ((List.range k).filterMap fun (m : Nat) => xs[((i : Int) + (m : Int) * 1).toNat]?).toArray = ((xs.toList.drop i).take k).toArray := by
  have e : (fun (m : Nat) => xs[((i : Int) + (m : Int) * 1).toNat]?) = fun m => xs[i + m]? := by
    funext m
    have : ((i : Int) + (m : Int) * 1).toNat = i + m := by omega
    rw [this]
  rw [e]
  have := pick_run xs i k
  rw [List.filterMap_map] at this
  have e2 : ((fun x => xs[x]?) ∘ fun x => i + x) = fun m => xs[i + m]? := rfl
  rw [e2] at this
  rw [this]
theorem getItem_tuple_cut {t sl : Addr} {items : Array Value} {vl vu : Value} {lo hi : Option Int} {Q : Value -> Shared -> Prop} (ht : IsTup s.heap t items) (hs : s.heap.IsSliceOf sl vl vu .none) (pl : IsPart vl lo) (pu : IsPart vu hi)
    (hw : ¬ (sIx items.size 0 lo = 0 /\ sIx items.size items.size hi = items.size))
    (h : Q (.ref s.heap.objs.size) { s with heap := s.heap.push { cls := .type "tuple", data := .seq ((items.toList.drop (sIx items.size 0 lo)).take (sIx items.size items.size hi - sIx items.size 0 lo)).toArray } })
    (hsz : items.size <= sizeLine) : wpAny (model prog w) A (getItem (.ref t) (.ref sl)) Q E s := by
  have htake : sizeOk (.seq ((items.toList.drop (sIx items.size 0 lo)).take (sIx items.size items.size hi - sIx items.size 0 lo)).toArray) := by
    show ((items.toList.drop (sIx items.size 0 lo)).take (sIx items.size items.size hi - sIx items.size 0 lo)).toArray.size <= sizeLine
    rw [List.size_toArray, List.length_take, List.length_drop, Array.length_toList]
    omega
  have hj : sIx items.size items.size hi <= items.size := sIx_le _ _ (Nat.le_refl _) hi
  obtain ⟨os, hos, hcs, hds⟩ := id hs
  have hTs : s.TypeIs (.ref sl) "slice" := ⟨os, hos, hcs⟩
  unfold getItem
  try with_reducible refine wpAny_holding ?_
  first | refine wpAny_bind (wpAny_pure ?_) | skip
  refine wpAny_bind (wpAny_sequenceKey ht.typeIs (by decide) ?_)
  refine wpAny_bind (wpAny_callSpecial?_slot (name := Str.ofString "__getitem__") ht.typeIs PyProof.Rows.slot_tuple_getitem
    (wpAny_call_entry PyProof.Rows.slot_tuple_getitem ht.typeIs entry_tuple_getitem ?_ (args_tuple_getitem _ _)))
  show wpAny _ _ (Builtin.Tuple.tupleItemsOf (.ref t) >>= _) _ _ s
  refine wpAny_bind (tupleItemsOf_ ht ?_)
  refine wpAny_bind (wpAny_typeOf hTs ?_)
  rw [if_pos (by decide)]
  refine wpAny_bind (sliceApplied_gen hs pl pu ?_)
  have hno : ¬ ((((sIx items.size 0 lo : Nat) : Int) == 0 && (1 : Int) == 1 && (sIx items.size items.size hi - sIx items.size 0 lo) == items.size) = true) := by
    intro q
    rw [Bool.and_eq_true, Bool.and_eq_true] at q
    have q1 : ((sIx items.size 0 lo : Nat) : Int) = 0 := eq_of_beq q.1.1
    have q2 : sIx items.size items.size hi - sIx items.size 0 lo = items.size := eq_of_beq q.2
    exact hw ⟨by omega, by omega⟩
  show wpAny _ _ (if (((sIx items.size 0 lo : Nat) : Int) == 0 && (1 : Int) == 1 && (sIx items.size items.size hi - sIx items.size 0 lo) == items.size) = true then _ else _) _ _ s
  rw [if_neg hno, pick_gen]
  first
    | exact wpAny_bind (m := Builtin.Tuple.tupleExact _) (wpAny_newObj_type (wpAny_pure ⟨_, rfl, wpAny_pure h⟩) htake)
    | exact wpAny_bind (m := Builtin.Tuple.tupleExact _) (wpAny_newObj_type (wpAny_bind (wpAny_pure (wpAny_pure ⟨_, rfl, wpAny_pure h⟩))) htake)
    | exact wpAny_bind (wpAny_bind (m := Builtin.Tuple.tupleExact _) (wpAny_newObj_type (wpAny_pure (wpAny_pure ⟨_, rfl, wpAny_pure h⟩)) htake))
    | exact wpAny_bind (wpAny_bind (m := Builtin.Tuple.tupleExact _) (wpAny_newObj_type (wpAny_pure ⟨_, rfl, wpAny_pure h⟩) htake))
end
end HT
namespace L2
open PySem PySem.Spec PyProof.Rows
abbrev TO := St -> Hp -> (Option Int -> Hp -> Prop) -> Prop
def PO (X : Cx) (e : Option Expr) (t : TO) : Prop :=
  ∀ (pins : List (Addr × Obj)) (s : Shared) (σ : St) (H : Hp) (Q : Option Int -> Hp -> Prop), Inv X pins σ H s -> t σ H Q ->
    wpAny (model X.prog X.w) X.A (evalPart e X.env) (fun u s' => ∃ o H', Inv X pins σ H' s' /\ IsPart u o /\ Q o H') X.xe s
def tNoPart : TO := fun _ H Q => Q none H
def tPart (t : TE) : TO := fun σ H Q => t σ H fun x H1 => ∃ i, x = .int i /\ Q (some i) H1
section
variable {X : Cx} {e : Expr} {te : TE} {lo hi : Option Expr} {tl th : TO} {pos p2 : Pos}
theorem po_none : PO X none tNoPart := by
  intro pins s σ H Q I h
  rw [evalPart_none]
  exact wpAny_pure ⟨none, H, I, .none, h⟩
theorem po_some (h : PE X e te) : PO X (some e) (tPart te) := by
  intro pins s σ H Q I hw
  rw [evalPart_some]
  refine thn (h pins s σ H _ I hw) fun u s1 ⟨x, H1, I1, r1, q1⟩ => ?_
  obtain ⟨i, rfl, q⟩ := q1
  obtain ⟨t, rfl⟩ := r1
  exact ⟨some i, H1, I1, .int i t, q⟩
def SlR (X : Cx) (r : V -> Option Int -> Option Int -> Hp -> VK -> Prop) : Prop :=
  ∀ (pins : List (Addr × Obj)) (s : Shared) (σ : St) (H : Hp) (x : V) (v vl vu : Value) (lo hi : Option Int) (sl : Addr) (Q : VK), Inv X pins σ H s -> RelV x v -> s.heap.IsSliceOf sl vl vu .none -> IsPart vl lo -> IsPart vu hi -> r x lo hi H Q ->
    ∃ T id, typeLookup (.type T) "__getitem__" = pure (some (.builtin id)) /\ s.TypeIs v T /\ wpAny (model X.prog X.w) X.A (getItem v (.ref sl)) (EP X pins σ Q) X.xe s
theorem SlR.or {r r' : V -> Option Int -> Option Int -> Hp -> VK -> Prop} (h : SlR X r) (h' : SlR X r') : SlR X (fun x lo hi H Q => r x lo hi H Q \/ r' x lo hi H Q) := by
  intro pins s σ H x v vl vu lo hi sl Q I rx hs pl pu q
  rcases q with q | q
  · exact h pins s σ H x v vl vu lo hi sl Q I rx hs pl pu q
  · exact h' pins s σ H x v vl vu lo hi sl Q I rx hs pl pu q
def tSl (r : V -> Option Int -> Option Int -> Hp -> VK -> Prop) (te : TE) (tl th : TO) : TE := fun σ H Q => te σ H fun x H1 => tl σ H1 fun l H2 => th σ H2 fun u H3 => r x l u H3 Q
theorem pe_slice {r : V -> Option Int -> Option Int -> Hp -> VK -> Prop} (hr : SlR X r) (he : PE X e te) (hl : PO X lo tl) (hu : PO X hi th) : PE X (.Subscript e (.Slice lo hi none p2) pos) (tSl r te tl th) := by
  intro pins s σ H Q I h
  refine Subscript_ (thn (he pins s σ H _ I h) fun v s1 ⟨x, H1, I1, r1, q1⟩ => ?_)
  refine wpAny_Slice (thn (hl pins s1 σ H1 _ I1 q1) fun vl s2 ⟨l, H2, I2, pl, q2⟩ => thn (hu pins s2 σ H2 _ I2 q2) fun vu s3 ⟨u, H3, I3, pu, q3⟩ => ?_)
  rw [evalPart_none]
  refine wpAny_pure ?_
  have I4 : Inv X pins σ H3 { s3 with heap := s3.heap.push { cls := .type "slice", data := .fields #[vl, vu, .none] } } := I3.kept (t' := s3.toks) fun b ob q => Heap.get?_push_of_some _ q
  obtain ⟨T, id, hT, ht, hg⟩ := hr pins { s3 with heap := s3.heap.push { cls := .type "slice", data := .fields #[vl, vu, .none] } } σ H3 x v vl vu l u s3.heap.objs.size Q I4 r1 (Heap.IsSliceOf.new ..) pl pu q3
  show wpAny (model X.prog X.w) X.A (subscriptTail e (.Slice lo hi none p2) v (.ref s3.heap.objs.size)) (EP X pins σ Q) X.xe { s3 with heap := s3.heap.push { cls := .type "slice", data := .fields #[vl, vu, .none] } }
  exact tail_any (ops := [.ref s3.heap.objs.size, v]) ht hT hg (by with_unfolding_all rfl)
def cutV (xs : List V) (lo hi : Option Int) : List V := (xs.drop (HT.sIx xs.length 0 lo)).take (HT.sIx xs.length xs.length hi - HT.sIx xs.length 0 lo)
theorem cutV_length (xs : List V) (lo hi : Option Int) : (cutV xs lo hi).length <= xs.length := by
  unfold cutV
  rw [List.length_take, List.length_drop]
  omega
def rSlT (K : PySem.W.Frag) : V -> Option Int -> Option Int -> Hp -> VK -> Prop := fun x lo hi H Q => ∃ a xs, x = .ref a /\ SqT K H a xs /\
  ¬ (HT.sIx xs.length 0 lo = 0 /\ HT.sIx xs.length xs.length hi = xs.length) /\ ∀ p, H p = none -> Q (.ref p) (upd H p (.tup (cutV xs lo hi)))
theorem sl_tup : SlR X (rSlT X.K) := by
  intro pins s σ H x v vl vu lo hi sl Q I rx hs pl pu h
  obtain ⟨a, xs, rfl, hx, hw, q⟩ := h
  cases rx
  obtain ⟨its, r, ht, hz⟩ := I.tuple hx
  have hlen : its.toArray.size = xs.length := by rw [List.size_toArray]; exact r.length.symm
  refine ⟨"tuple", _, PyProof.Rows.slot_tuple_getitem.lookup, ht.typeIs, ?_⟩
  refine HT.getItem_tuple_cut ht hs pl pu (by rw [hlen]; exact hw) ?_ (by rw [hlen]; exact hz)
  rw [hlen]
  refine ⟨.ref s.heap.objs.size, _, I.laid (t' := s.toks) (o := .tup (cutV xs lo hi)) (fun b ob q => Heap.get?_push_of_some _ q) (Nat.le_refl _) ?_, rfl, q _ (I.hok.fresh (Nat.le_refl _))⟩
  exact ⟨Nat.le_trans (cutV_length xs lo hi) hz, _, (r.drop (HT.sIx xs.length 0 lo)).take (HT.sIx xs.length xs.length hi - HT.sIx xs.length 0 lo), IsTup.new _ _⟩
def rCatT (K : PySem.W.Frag) : R2 := fun x y H Q => ∃ a b xs ys, x = .ref a /\ y = .ref b /\ SqT K H a xs /\ SqT K H b ys /\ xs ≠ [] /\ xs.length + ys.length <= sizeLine /\
  (ys = [] -> Q (.ref a) H) /\ (ys ≠ [] -> ∀ p, H p = none -> Q (.ref p) (upd H p (.tup (xs ++ ys))))
theorem Vals.nil_iff {xs : List V} {us : List Value} (r : Vals xs us) : us = [] ↔ xs = [] := by
  cases r with
  | nil => simp
  | cons _ _ => simp
theorem op_catT : OpR X (binaryOp .Add) (rCatT X.K) := by
  intro pins s σ H x y v u Q I rx ry h
  obtain ⟨a, b, xs, ys, rfl, rfl, ha, hb, hx, hz, q1, q2⟩ := h
  cases rx
  cases ry
  obtain ⟨its, r1, p1, _⟩ := I.tuple ha
  obtain ⟨its2, r2, p2, _⟩ := I.tuple hb
  refine HT.cat_tup p1 p2 (fun z => hx (r1.nil_iff.mp z)) (fun z => ⟨.ref a, H, I, rfl, q1 (r2.nil_iff.mp z)⟩) (fun z => ?_) (by rw [<- r1.length, <- r2.length]; exact hz)
  refine ⟨.ref s.heap.objs.size, _, I.laid (t' := s.toks) (o := .tup (xs ++ ys)) (fun b ob q => Heap.get?_push_of_some _ q) (Nat.le_refl _) ?_, rfl, q2 (fun w => z (r2.nil_iff.mpr w)) _ (I.hok.fresh (Nat.le_refl _))⟩
  exact ⟨by rw [List.length_append]; exact hz, _, r1.append r2, IsTup.new _ _⟩
theorem call_tupleT : CallR X (.type "tuple") (fun xs H Q => ∃ a ys, xs = [.ref a] /\ SqT X.K H a ys /\ Q (.ref a) H) := by
  intro pins s σ H xs us Q I r h
  obtain ⟨a, ys, rfl, ha, q⟩ := h
  obtain ⟨u, rfl, ru⟩ := vals1 r
  cases ru
  obtain ⟨its, _, p1, _⟩ := I.tuple ha
  exact call_tuple_same (items := its.toArray) p1 ⟨.ref a, H, I, rfl, q⟩
end
end L2
namespace L2
open PySem PySem.Spec PyProof.Rows
def ixN (n : Nat) (i : Int) : Option Nat := if 0 <= i then (if i < n then some i.toNat else none) else if -(n : Int) <= i then some (i + n).toNat else none
def atI {α : Type} (xs : List α) (i : Int) : Option α := (ixN xs.length i).bind fun j => xs[j]?
theorem ixN_seq {n : Nat} {i : Int} {j : Nat} (h : ixN n i = some j) : seqIndex? i n = some j /\ j < n /\ -(n : Int) <= i /\ i < n := by
  unfold ixN at h
  by_cases h0 : 0 <= i
  · rw [if_pos h0] at h
    by_cases h1 : i < n
    · rw [if_pos h1] at h
      have e : i.toNat = j := Option.some.inj h
      exact ⟨by rw [seqIndex_of h0 h1, e], by omega, by omega, h1⟩
    · rw [if_neg h1] at h; cases h
  · rw [if_neg h0] at h
    by_cases h1 : -(n : Int) <= i
    · rw [if_pos h1] at h
      have e : (i + n).toNat = j := Option.some.inj h
      exact ⟨by rw [seqIndex_neg (by omega) h1, e], by omega, h1, by omega⟩
    · rw [if_neg h1] at h; cases h
theorem atI_get {α : Type} {xs : List α} {i : Int} {v : α} (h : atI xs i = some v) : ∃ j, seqIndex? i xs.length = some j /\ xs[j]? = some v /\ j < xs.length /\ -(xs.length : Int) <= i /\ i < xs.length := by
  unfold atI at h
  cases e : ixN xs.length i with
  | none => rw [e] at h; cases h
  | some j =>
    rw [e] at h
    obtain ⟨h1, h2, h3, h4⟩ := ixN_seq e
    exact ⟨j, h1, h, h2, h3, h4⟩
def PlainIx (b : Expr) : Prop := ∀ o i, subscripted b false o i = operate [o, i] (getItem o i)
def IxR (X : Cx) (r : R2) : Prop :=
  ∀ (value slice : Expr) (pins : List (Addr × Obj)) (s : Shared) (σ : St) (H : Hp) (x y : V) (v u : Value) (Q : VK), Inv X pins σ H s -> RelV x v -> RelV y u -> r x y H Q ->
    subscripted slice false v u = operate [v, u] (getItem v u) -> wpAny (model X.prog X.w) X.A (subscriptTail value slice v u) (EP X pins σ Q) X.xe s
def MtR (X : Cx) (id : String) (r : V -> List V -> Hp -> VK -> Prop) : Prop :=
  ∀ (pins : List (Addr × Obj)) (s : Shared) (σ : St) (H : Hp) (x : V) (xs : List V) (v : Value) (us : List Value) (Q : VK), Inv X pins σ H s -> RelV x v -> Vals xs us -> r x xs H Q ->
    wpAny (model X.prog X.w) X.A (call (.builtin id) (v :: us)) (EP X pins σ Q) X.xe s
section
variable {X : Cx} {a b : Expr} {ta tb : TE} {pos : Pos}
theorem IxR.or {r r' : R2} (h : IxR X r) (h' : IxR X r') : IxR X (fun x y H Q => r x y H Q \/ r' x y H Q) := by
  intro value slice pins s σ H x y v u Q I rx ry q hs
  rcases q with q | q
  · exact h value slice pins s σ H x y v u Q I rx ry q hs
  · exact h' value slice pins s σ H x y v u Q I rx ry q hs
theorem MtR.or {id : String} {r r' : V -> List V -> Hp -> VK -> Prop} (h : MtR X id r) (h' : MtR X id r') : MtR X id (fun x xs H Q => r x xs H Q \/ r' x xs H Q) := by
  intro pins s σ H x xs v us Q I rx rs q
  rcases q with q | q
  · exact h pins s σ H x xs v us Q I rx rs q
  · exact h' pins s σ H x xs v us Q I rx rs q
theorem pe_ix {r : R2} (hr : IxR X r) (ha : PE X a ta) (hb : PE X b tb) (hs : PlainIx b) : PE X (.Subscript a b pos) (tOp r ta tb) := by
  intro pins s σ H Q I h
  exact Subscript_ (binT ha hb I h fun v u s2 x y H2 I2 rx ry q => hr a b pins s2 σ H2 x y v u Q I2 rx ry q (hs _ _))
def rIxL (K : PySem.W.Frag) : R2 := fun x y H Q => ∃ p xs i v, x = .ref p /\ y = .int i /\ SqL K H p xs /\ atI xs i = some v /\ Q v H
def rIxT (K : PySem.W.Frag) : R2 := fun x y H Q => ∃ p xs i v, x = .ref p /\ y = .int i /\ SqT K H p xs /\ atI xs i = some v /\ Q v H
def rIxS : R2 := fun x y H Q => ∃ z i c, x = .str z /\ y = .int i /\ z.length <= sizeLine /\ atI z.cps.toList i = some c /\ Q (.str ⟨#[c]⟩) H
theorem ix_list : IxR X (rIxL X.K) := by
  intro value slice pins s σ H x y v u Q I rx ry h hs
  obtain ⟨p, xs, i, z, rfl, rfl, hq, he, q⟩ := h
  cases rx
  obtain ⟨t, rfl⟩ := ry
  obtain ⟨its, r, pl, hz⟩ := I.list hq
  obtain ⟨j, h1, h2, h3, h4, h5⟩ := atI_get he
  obtain ⟨w, ew, rw'⟩ := r.get h2
  have hl := r.length
  have hn := line63
  have fin : EP X pins σ Q w s := ⟨z, H, I, rw', q⟩
  by_cases h0 : 0 <= i
  · have hj : i.toNat = j := by
      rw [seqIndex_of h0 h5] at h1
      exact Option.some.inj h1
    exact item_listR pl.isList h0 (by omega) (by rw [hj]; simpa using ew) fin hs
  · have hj : (i + (its.toArray.size : Int)).toNat = j := by
      rw [seqIndex_neg (by omega) h4] at h1
      rw [List.size_toArray, <- hl]
      exact Option.some.inj h1
    exact subscriptTail_builtinR (x := w) pl.isList.typeIs slot_list_getitem.lookup
      (wpAny_getItem_list_neg (Q := fun r s' => r = w /\ EP X pins σ Q r s') pl.isList (by omega) (by rw [List.size_toArray] <;> omega) (by omega) (by rw [hj]; simpa using ew) ⟨rfl, fin⟩) hs
theorem ix_tup : IxR X (rIxT X.K) := by
  intro value slice pins s σ H x y v u Q I rx ry h hs
  obtain ⟨p, xs, i, z, rfl, rfl, hq, he, q⟩ := h
  cases rx
  obtain ⟨t, rfl⟩ := ry
  obtain ⟨its, r, pl, hz⟩ := I.tuple hq
  obtain ⟨j, h1, h2, h3, h4, h5⟩ := atI_get he
  obtain ⟨w, ew, rw'⟩ := r.get h2
  have hl := r.length
  have hn := line63
  have fin : EP X pins σ Q w s := ⟨z, H, I, rw', q⟩
  exact subscriptTail_builtinR (x := w) pl.typeIs slot_tuple_getitem.lookup
    (getItem_tuple (j := j) (Q := fun r s' => r = w /\ EP X pins σ Q r s') pl (by omega) (by omega) (by rw [List.size_toArray, <- hl]; exact h1) (by simpa using ew) ⟨rfl, fin⟩) hs
theorem ix_str : IxR X rIxS := by
  intro value slice pins s σ H x y v u Q I rx ry h hs
  obtain ⟨z, i, c, rfl, rfl, hz, he, q⟩ := h
  obtain ⟨t, rfl⟩ := rx
  obtain ⟨t', rfl⟩ := ry
  obtain ⟨j, h1, h2, h3, h4, h5⟩ := atI_get he
  have hl : z.cps.toList.length = z.length := by simp [Str.length]
  rw [hl] at h1 h4 h5
  have hn := line63
  exact tail_any (typeIs_str s z t) slot_str_getitem.lookup (getItem_str (c := c) (by
    have e1 : decide (i < -(2 ^ 63 : Int)) = false := decide_eq_false (by omega)
    have e2 : decide (i ≥ 2 ^ 63) = false := decide_eq_false (by omega)
    rw [e1, e2, Bool.or_false]) (by rw [h1]; simpa using h2) ⟨.str ⟨#[c]⟩, H, I.tok _, ⟨_, rfl⟩, q⟩) hs
def rIx (K : PySem.W.Frag) : R2 := fun x y H Q => rIxL K x y H Q \/ rIxT K x y H Q \/ rIxS x y H Q
theorem ix_seq : IxR X (rIx X.K) := ix_list.or (ix_tup.or ix_str)
theorem mapSeq_set (its : List Value) (n j : Nat) (u : Value) : Obj.mapSeq (·.setIfInBounds j u) { cls := .type "list", data := .seq its.toArray n } = { cls := .type "list", data := .seq (its.set j u).toArray n } := by
  simp [Obj.mapSeq]
theorem Inv.lst {pins : List (Addr × Obj)} {σ : St} {H : Hp} {s : Shared} {p : Addr} {xs : List V} (I : Inv X pins σ H s) (h : H p = some (.lst xs)) :
    ∃ (its : List Value) (n : Nat), Vals xs its /\ s.heap.get? p = some { cls := .type "list", data := .seq its.toArray n } /\ xs.length <= sizeLine := by
  obtain ⟨z, its, n, r, e⟩ := I.hok p _ h
  exact ⟨its, n, r, e, z⟩
theorem Inv.lstUpd {pins : List (Addr × Obj)} {σ : St} {H : Hp} {s : Shared} {p : Addr} {xs ys : List V} {its its' : List Value} {n n' : Nat} {f : Obj -> Obj} (I : Inv X pins σ H s) (h : H p = some (.lst xs))
    (ho : s.heap.get? p = some { cls := .type "list", data := .seq its.toArray n }) (hf : f { cls := .type "list", data := .seq its.toArray n } = { cls := .type "list", data := .seq its'.toArray n' }) (r : Vals ys its') (hz : ys.length <= sizeLine) (t : Nat) :
    Inv X pins σ (upd H p (.lst ys)) { s with heap := s.heap.update p f, toks := t } := by
  have e : (s.heap.update p f).get? p = some { cls := .type "list", data := .seq its'.toArray n' } := by
    rw [Heap.get?_update_self f ho (by rw [hf] <;> rfl), hf]
  refine I.write (x := p) (e := p) (by rw [h]; trivial) (.inl rfl) (fun b u hb q => (Heap.get?_update_other _ _ (Ne.symm hb)).trans q) ⟨_, e⟩ ?_
  exact ⟨hz, its', n', r, e⟩
def rSetL : V -> V -> V -> Hp -> (Hp -> Prop) -> Prop := fun o i v H Q => ∃ p xs k j, o = .ref p /\ i = .int k /\ H p = some (.lst xs) /\ ixN xs.length k = some j /\ Q (upd H p (.lst (xs.set j v)))
theorem set_list : PSet X rSetL := by
  intro pins s σ H o i v ov iv u Q I ro ri rv h
  obtain ⟨p, xs, k, j, rfl, rfl, hp, hj, q⟩ := h
  cases ro
  obtain ⟨t, rfl⟩ := ri
  obtain ⟨its, n, r, ho, hz⟩ := I.lst hp
  obtain ⟨h1, h2, h3, h4⟩ := ixN_seq hj
  have hl := r.length
  have hn := line63
  have I' : Inv X pins σ (upd H p (.lst (xs.set j v))) { s with heap := s.heap.update p (Obj.mapSeq (·.setIfInBounds j u)) } :=
    I.lstUpd hp ho (mapSeq_set its n j u) (r.set rv j) (by rw [List.length_set]; exact hz) s.toks
  by_cases h0 : 0 <= k
  · have hk : k.toNat = j := by
      rw [seqIndex_of h0 h4] at h1
      exact Option.some.inj h1
    exact PySem.W.ki_setAt ho h0 (by omega) (by rw [List.size_toArray, <- hl]; exact h4) (by rw [hk]; exact ⟨_, I', q⟩)
  · have hk : (k + (its.toArray.size : Int)).toNat = j := by
      rw [seqIndex_neg (by omega) h3] at h1
      rw [List.size_toArray, <- hl]
      exact Option.some.inj h1
    exact PySem.W.ki_setBack ho (by omega) (by rw [List.size_toArray, <- hl]; exact h3) (by omega) (by rw [hk]; exact ⟨_, I', q⟩)
theorem slice_bounds (lo hi : Option Int) (n : Nat) : (sliceBounds lo hi none n).1 = ((HT.sIx n 0 lo : Nat) : Int) /\ (sliceBounds lo hi none n).2.1 = ((HT.sIx n n hi : Nat) : Int) /\ (sliceBounds lo hi none n).2.2 = 1 := by
  refine ⟨?_, ?_, rfl⟩
  · cases lo with
    | none => simp [sliceBounds, HT.sIx]
    | some i =>
      simp only [sliceBounds, HT.sIx, Option.getD_none, show (1 : Int) > 0 by decide, if_true]
      by_cases h : i < 0
      · simp only [h, if_true] <;> omega
      · simp only [h, if_false] <;> omega
  · cases hi with
    | none => simp [sliceBounds, HT.sIx]
    | some i =>
      simp only [sliceBounds, HT.sIx, Option.getD_none, show (1 : Int) > 0 by decide, if_true]
      by_cases h : i < 0
      · simp only [h, if_true] <;> omega
      · simp only [h, if_false] <;> omega
theorem slicePick_cut (its : List Value) (lo hi : Option Int) : slicePick its.toArray lo hi none = ((its.drop (HT.sIx its.length 0 lo)).take (HT.sIx its.length its.length hi - HT.sIx its.length 0 lo)).toArray := by
  obtain ⟨h1, h2, h3⟩ := slice_bounds lo hi its.toArray.size
  unfold slicePick
  rw [h1, h2, h3]
  simp only [sliceRange_one, pick_run, List.size_toArray] <;> rfl
def rSlL (K : PySem.W.Frag) : V -> Option Int -> Option Int -> Hp -> VK -> Prop := fun x lo hi H Q => ∃ a xs, x = .ref a /\ SqL K H a xs /\ ∀ p, H p = none -> Q (.ref p) (upd H p (.lst (cutV xs lo hi)))
theorem sl_list : SlR X (rSlL X.K) := by
  intro pins s σ H x v vl vu lo hi sl Q I rx hs pl pu h
  obtain ⟨a, xs, rfl, hx, q⟩ := h
  cases rx
  obtain ⟨its, r, ht, hz⟩ := I.list hx
  have hlen := r.length
  refine ⟨"list", _, slot_list_getitem.lookup, ht.isList.typeIs, ?_⟩
  refine wpAny_getItem_list_slice ht.isList hs pl pu .none (by simp) ?_ (by rw [List.size_toArray] <;> omega)
  rw [slicePick_cut, <- hlen]
  refine ⟨.ref s.heap.objs.size, _, I.laid (t' := s.toks) (o := .lst (cutV xs lo hi)) (fun b ob q => Heap.get?_push_of_some _ q) (Nat.le_refl _) ?_, rfl, q _ (I.hok.fresh (Nat.le_refl _))⟩
  exact ⟨Nat.le_trans (cutV_length xs lo hi) hz, _, 0, (r.drop (HT.sIx xs.length 0 lo)).take (HT.sIx xs.length xs.length hi - HT.sIx xs.length 0 lo), Heap.get?_push_size _ rfl⟩
theorem call_len_seq : CallR X (.builtin "len") (fun xs H Q => ∃ p ys, xs = [.ref p] /\ (SqL X.K H p ys \/ SqT X.K H p ys) /\ Q (.int ys.length) H) := by
  intro pins s σ H xs us Q I r h
  obtain ⟨p, ys, rfl, hq, q⟩ := h
  obtain ⟨u, rfl, rx⟩ := vals1 r
  cases rx
  have hn := line63
  rcases hq with hq | hq
  · obtain ⟨its, r', pl, hz⟩ := I.list hq
    have hlen := r'.length
    exact Calls.call_len_list pl.isList (by simp only [List.size_toArray] <;> omega) ⟨.int ys.length, H, I.tok _, ⟨s.toks + 1, by rw [List.size_toArray, hlen]⟩, q⟩
  · obtain ⟨its, r', pl, hz⟩ := I.tuple hq
    have hlen := r'.length
    exact len_tuple pl (by simp only [List.size_toArray] <;> omega) ⟨.int ys.length, H, I.tok _, ⟨s.toks + 1, by rw [List.size_toArray, hlen]⟩, q⟩
theorem call_len_str : CallR X (.builtin "len") (fun xs H Q => ∃ z, xs = [.str z] /\ z.length <= sizeLine /\ Q (.int z.length) H) := by
  intro pins s σ H xs us Q I r h
  obtain ⟨z, rfl, hz, q⟩ := h
  obtain ⟨u, rfl, t, rfl⟩ := vals1 r
  have hn := line63
  exact len_str (by omega) ⟨.int z.length, H, I.tok _, ⟨_, rfl⟩, q⟩
theorem CallR.or {f : Value} {r r' : List V -> Hp -> VK -> Prop} (h : CallR X f r) (h' : CallR X f r') : CallR X f (fun xs H Q => r xs H Q \/ r' xs H Q) := by
  intro pins s σ H xs us Q I rs q
  rcases q with q | q
  · exact h pins s σ H xs us Q I rs q
  · exact h' pins s σ H xs us Q I rs q
theorem call_tuple_of : CallR X (.type "tuple") (fun xs H Q => ∃ p ys, xs = [.ref p] /\ ((SqL X.K H p ys /\ ∀ l, H l = none -> Q (.ref l) (upd H l (.tup ys))) \/ (SqT X.K H p ys /\ Q (.ref p) H))) := by
  intro pins s σ H xs us Q I r h
  obtain ⟨p, ys, rfl, h⟩ := h
  obtain ⟨u, rfl, rx⟩ := vals1 r
  cases rx
  rcases h with ⟨hq, q⟩ | ⟨hq, q⟩
  · obtain ⟨its, r', pl, hz⟩ := I.list hq
    have hlen := r'.length
    refine call_tuple_list pl.isList (fun h' kp => ?_) (by simp only [List.size_toArray] <;> omega)
    have I1 : Inv X pins σ H { s with heap := h' } := I.kept (t' := s.toks) kp
    have I2 : Inv X pins σ (upd H h'.objs.size (.tup ys)) { s with heap := h'.push { cls := .type "tuple", data := .seq its.toArray } } :=
      I1.laid (t' := s.toks) (fun b o e => Heap.get?_push_of_some _ e) (Nat.le_refl _) (show ObjOk X.prog X.w _ _ _ (.tup ys) from ⟨hz, its, r', IsTup.new _ _⟩)
    exact ⟨.ref h'.objs.size, _, I2, rfl, q _ (I1.hok.fresh (Nat.le_refl _))⟩
  · obtain ⟨its, r', pl, hz⟩ := I.tuple hq
    exact call_tuple_same pl ⟨.ref p, H, I, rfl, q⟩
def tyV (K : PySem.W.Frag) (T : String) (x : V) (H : Hp) : Prop := match x with
  | .str _ => T = "str"
  | .int _ => T = "int"
  | .ref p => (T = "list" /\ ∃ xs, SqL K H p xs) \/ (T = "tuple" /\ ∃ o, K.lookup p = some o /\ o.cls = .type "tuple" /\ o.dict = none) \/
      (T = "dict" /\ ((∃ kvs, H p = some (.dK kvs)) \/ ∃ kvs, H p = some (.dT kvs))) \/ (T = "set" /\ ∃ S n, H p = some (.set S n))
  | _ => False
theorem tyV_is {pins : List (Addr × Obj)} {σ : St} {H : Hp} {s : Shared} {T : String} {x : V} {v : Value} (I : Inv X pins σ H s) (r : RelV x v) (ty : tyV X.K T x H) :
    s.TypeIs v T /\ ∀ a, v = .ref a -> ∃ ob, s.heap.get? a = some ob /\ ob.dict = none := by
  cases x with
  | str z =>
    obtain ⟨t, rfl⟩ := r
    cases (show T = "str" from ty)
    exact ⟨typeIs_str s z t, fun _ e => nomatch e⟩
  | int i =>
    obtain ⟨t, rfl⟩ := r
    cases (show T = "int" from ty)
    exact ⟨typeIs_int s i t, fun _ e => nomatch e⟩
  | ref p =>
    cases r
    rcases ty with ⟨rfl, xs, hq⟩ | ⟨rfl, o, hk, hc, hd⟩ | ⟨rfl, hk⟩ | ⟨rfl, S, n, hk⟩
    · obtain ⟨its, _, pl, _⟩ := I.list hq
      refine ⟨pl.isList.typeIs, fun a e => ?_⟩
      cases e
      obtain ⟨o, n, e, c, hd, _⟩ := pl
      exact ⟨o, e, hd⟩
    · refine ⟨⟨o, I.kIn p o hk, hc⟩, fun a e => ?_⟩
      cases e
      exact ⟨o, I.kIn _ o hk, hd⟩
    · have z : ∃ o, s.heap.get? p = some o /\ o.ExactDict := by
        rcases hk with ⟨kvs, hk⟩ | ⟨kvs, hk⟩
        · obtain ⟨_, _, _, _, o, _, _, e, ex, _⟩ := I.hok p _ hk
          exact ⟨o, e, ex⟩
        · obtain ⟨_, _, _, _, o, _, _, e, ex, _⟩ := I.hok p _ hk
          exact ⟨o, e, ex⟩
      obtain ⟨o, e, ex⟩ := z
      refine ⟨⟨o, e, ex.1⟩, fun a e2 => ?_⟩
      cases e2
      exact ⟨o, e, ex.2.1⟩
    · obtain ⟨o, _, _, _, e, ex, _⟩ := I.hok p _ hk
      refine ⟨⟨o, e, ex.1⟩, fun a e2 => ?_⟩
      cases e2
      exact ⟨o, e, ex.2.1⟩
  | _ => exact False.elim ty
variable {o e : Expr} {es : List Expr} {to : TE} {t : TA} {name : Str} {apos cpos : Pos} {T id : String} {r : V -> List V -> Hp -> VK -> Prop}
end
end L2
namespace L2
open PySem PySem.Spec PyProof.Rows
def MtM (X : Cx) (id : String) (r : V -> List V -> Hp -> VK -> Prop) : Prop :=
  ∀ (pins : List (Addr × Obj)) (s : Shared) (σ : St) (H : Hp) (x : V) (xs : List V) (v : Value) (us : List Value) (Q : VK), Inv X pins σ H s -> RelV x v -> Vals xs us -> r x xs H Q ->
    wpAny (model X.prog X.w) X.A (call (.builtin id) (v :: us)) (EP X pins σ Q) X.xe s
theorem Vals.one : ∀ {x : V} {us : List Value}, Vals [x] us -> ∃ u, us = [u] /\ RelV x u
  | _, _, .cons r .nil => ⟨_, rfl, r⟩
theorem Vals.two : ∀ {x y : V} {us : List Value}, Vals [x, y] us -> ∃ u v, us = [u, v] /\ RelV x u /\ RelV y v
  | _, _, _, .cons r (.cons q .nil) => ⟨_, _, rfl, r, q⟩
theorem Vals.zero : ∀ {us : List Value}, Vals [] us -> us = []
  | _, .nil => rfl
theorem Vals.dropLast {xs : List V} {us : List Value} (h : Vals xs us) : Vals xs.dropLast us.dropLast := by
  induction h with
  | nil => exact .nil
  | cons r t ih =>
    cases t with
    | nil => exact .nil
    | cons q t' => exact .cons r ih
theorem Vals.eraseIdx : ∀ {xs : List V} {us : List Value} (i : Nat), Vals xs us -> Vals (xs.eraseIdx i) (us.eraseIdx i)
  | _, _, _, .nil => .nil
  | _, _, 0, .cons _ t => t
  | _, _, i + 1, .cons r t => .cons r (Vals.eraseIdx i t)
section
variable {X : Cx} {pins : List (Addr × Obj)} {σ : St} {H : Hp} {s : Shared} {l b : Addr} {xs ys zs : List V}
theorem Inv.lset {its its' : List Value} {n : Nat} {f : Array Value -> Array Value} {t' : Nat} (I : Inv X pins σ H s) (hH : H l = some (.lst xs))
    (e : s.heap.get? l = some { cls := .type "list", data := .seq its.toArray n }) (hf : f its.toArray = its'.toArray) (hv : Vals ys its') (hz : ys.length <= sizeLine) :
    Inv X pins σ (upd H l (.lst ys)) { s with heap := s.heap.update l (Obj.mapSeq f), toks := t' } := by
  have q := PySem.IsL.update e f
  rw [hf] at q
  refine I.write (x := l) (e := l) (by rw [hH]; exact trivial) (.inl rfl) (fun b' u hb hu => (Heap.get?_update_other s.heap (Obj.mapSeq f) (Ne.symm hb)).trans hu) ⟨_, q⟩ ?_
  exact ⟨hz, its', _, hv, q⟩
theorem Inv.lnew {its : List Value} {t' : Nat} (I : Inv X pins σ H s) (hv : Vals ys its) (hz : ys.length <= sizeLine) :
    Inv X pins σ (upd H s.heap.objs.size (.lst ys)) { s with heap := s.heap.push { cls := .type "list", data := .seq its.toArray }, toks := t' } :=
  I.laid (fun _ _ q => Heap.get?_push_of_some _ q) (Nat.le_refl _) ⟨hz, its, 0, hv, Heap.get?_push_size _ rfl⟩
theorem Inv.fresh (I : Inv X pins σ H s) : H s.heap.objs.size = none := I.hok.fresh (Nat.le_refl _)
theorem Inv.lstM (I : Inv X pins σ H s) (hH : H l = some (.lst xs)) : xs.length <= sizeLine /\ ∃ (its : List Value) (n : Nat), Vals xs its /\ xs.length = its.length /\ s.heap.get? l = some { cls := .type "list", data := .seq its.toArray n } := by
  obtain ⟨z, its, n, r, e⟩ := I.hok l _ hH
  exact ⟨z, its, n, r, r.length, e⟩
end
section
variable {X : Cx}
def rAppend : V -> List V -> Hp -> VK -> Prop := fun x vs H Q => ∃ l xs y, x = .ref l /\ vs = [y] /\ H l = some (.lst xs) /\ xs.length < sizeLine /\ Q .non (upd H l (.lst (xs ++ [y])))
theorem mt_append : MtM X "list.append" rAppend := by
  intro pins s σ H x vs v us Q I rx rv h
  obtain ⟨l, xs, y, rfl, rfl, hH, hz, q⟩ := h
  cases rx
  obtain ⟨u, rfl, ru⟩ := rv.one
  obtain ⟨z, its, n, r, hl, e⟩ := I.lstM hH
  refine call_meets F.slot_list_append ⟨_, e, rfl⟩ F.entry_list_append (F.args_list_append_2 _ _) (PySem.list_append l its.toArray n u (by rw [List.size_toArray]; omega)) ⟨e, ?_⟩
  refine ⟨.non, _, I.lset (its' := its ++ [u]) hH e (by simp) (r.append (.cons ru .nil)) ?_, rfl, q⟩
  rw [List.length_append, List.length_singleton]
  omega
def rCat : R2 := fun x y H Q => ∃ l b xs zs, x = .ref l /\ y = .ref b /\ H l = some (.lst xs) /\ H b = some (.lst zs) /\ xs.length + zs.length <= sizeLine /\ ∀ p, H p = none -> Q (.ref p) (upd H p (.lst (xs ++ zs)))
theorem op_cat : OpR X (binaryOp .Add) rCat := by
  intro pins s σ H x y v u Q I rx ry h
  obtain ⟨l, b, xs, zs, rfl, rfl, hH, hB, hz, q⟩ := h
  cases rx
  cases ry
  obtain ⟨z, its, n, r, hl, e⟩ := I.lstM hH
  obtain ⟨z2, its2, n2, r2, hl2, e2⟩ := I.lstM hB
  refine PySem.P.add_list e e2 ?_ (by rw [List.size_toArray, List.size_toArray]; omega)
  have ea : its.toArray ++ its2.toArray = (its ++ its2).toArray := by simp
  rw [ea]
  exact ⟨.ref _, _, I.lnew (t' := s.toks) (r.append r2) (by rw [List.length_append]; omega), rfl, q _ I.fresh⟩
end
section
variable {prog : Program} {w : World} {A : Around} {E : Value -> Shared -> Prop} {s : Shared}
end
section
variable {X : Cx}
end
end L2
namespace Att
open PySem PySem.W PySem.Calls PyProof.Rows
theorem ints_of_wellAll {P : Params} {h : Heap} : ∀ (ns : List Int) (vs : List Value), WellAll P h vs (ns.map WData.int) -> IntsAre vs ns := by
  intro ns
  induction ns with
  | nil =>
    intro vs w
    rw [List.map_nil] at w
    cases w
    exact .nil
  | cons n ns ih =>
    intro vs w
    rw [List.map_cons] at w
    cases w with
    | cons a b =>
      cases a
      exact .cons _ _ (ih _ b)
theorem script_of {l : OpenLaw} {n : Nat} (hn : l.most = some n) {P : Params} {h : Heap} {args : List WData} {vals : List Value}
    (hpre : l.row.toRowW.claim.pre args = true) (hwl : WellAll P h vals args) :
    ∃ a vs ns, vals = [Value.ref a] /\ args = [WData.list (ns.map WData.int)] /\ h.get? a = some { cls := .type "list", data := .seq vs.toArray } /\ IntsAre vs ns /\ ns.length <= n := by
  have hsh : WShape.hasAll [] args [.list .int] = true := (pre_splitW hpre).1
  have hc : l.pre.holds [] { args := args } = true := (pre_splitW hpre).2
  obtain ⟨d, r, rfl, h1, h2⟩ := hasAllW_cons hsh
  obtain rfl := hasAllW_nil h2
  obtain ⟨xs, rfl, h3⟩ := hasW_list h1
  obtain ⟨ns, rfl⟩ := items_int h3
  have hlen : ns.length <= n := by
    unfold OpenLaw.pre at hc
    have h4 : (WTm.not (.lt (.lit (.int (n : Int))) (.len (.arg 0)))).holds [] { args := [.list (ns.map .int)] } = true := by
      have h4 := (holds_andW hc).1
      rw [hn] at h4
      exact h4
    have h5 := condW_of h4 (w_not (w_lt w_lit (w_len_list (w_arg rfl))))
    rw [List.length_map] at h5
    refine Nat.le_of_not_lt fun q => ?_
    have q' : (n : Int) < ((ns.length : Nat) : Int) := by omega
    first
      | (rw [decide_eq_true q'] at h5; exact absurd h5 (by decide))
      | (simp at h5; omega)
  cases hwl with
  | cons w1 w2 =>
    cases w2
    cases w1 with
    | list ho hall => exact ⟨_, _, ns, rfl, rfl, ho, ints_of_wellAll ns _ hall, hlen⟩
theorem post_true (l : OpenLaw) (args : List WData) : l.row.toRowW.claim.post args (.bool true) args = true :=
  postW_of (r := l.row.toRowW) (X := (true == true))
    (show WShape.has [] (.bool true) .bool = true by first | rfl | decide | simp [WShape.has, WShape.arms, WShape.armsAll])
    (show (WTm.eq .res (.lit (.bool true))).value [] { args := args, res := some (.bool true), after := args } = some (.bool (true == true)) from w_eq_bool (w_res rfl) w_lit) rfl
theorem attach_call {l : OpenLaw} {n : Nat} {q : Program} {loose : List Str} {XP : (Str -> Option Value) -> Heap -> Prop} {YP : World -> Heap -> Prop} {d : DefRec}
    (hn : l.most = some n) (hdf : d.params.defaults = [])
    (call : ∀ (w : World) (s₀ s₁ : Shared) (mg mb : Str -> Option Value) (fa : Addr) (o : Obj) (pm cd doc : Value) (a : Addr) (vs : List Value) (ns : List Int),
      Ground q loose [] XP w s₀ mg mb s₁.heap -> YP w s₁.heap ->
      s₁.heap.get? fa = some o -> o.data = .func (docDef d.name d.params d.body d.scope pm cd doc) -> s₁.heap.CodeRec cd d.name -> mg d.name = some (.ref fa) ->
      s₁.heap.get? a = some { cls := .type "list", data := .seq vs.toArray } -> IntsAre vs ns -> ns.length <= n -> s₁.gens = #[] ->
      codeAny (model l.prog w) callerA (.call (.ref fa) ⟨[.ref a], []⟩) (fun r s' => r = .ok (.ret (.bool true)) /\ OldK s₁.heap s'.heap /\ s'.os = s₁.os /\ AllBare s'.gens) s₁) :
    WalkO q loose XP YP l.row.toRowW d [] (fun f vs => PySem.call f vs) := by
  intro w s₀ s₁ mg mb G Y fa o pm cd doc dV kV ho hd hcd hD hmg hg args vals as hpre hlay hrd hwl hlo
  obtain rfl : dV = .none := Dflts.none hD hdf
  obtain rfl : kV = .none := Dflts.noKw hD
  obtain ⟨a, vs, ns, rfl, rfl, hobj, hints, hlen⟩ := script_of hn hpre hwl
  refine enter_call (codeAny_mono (call w s₀ s₁ mg mb fa o pm cd doc a vs ns G Y ho (fd_plain hd) hcd hmg hobj hints hlen hg) fun r s' hq => ?_)
  obtain ⟨rfl, h2, h3, h4⟩ := hq
  exact ⟨.inl ⟨.bool true, .bool true, [], rfl, fun _ => rfl, .bool true, post_true l _, fun _ => ⟨List.Pairwise.nil, fun _ hm => (nomatch hm)⟩⟩, h2, h3, h4⟩
section
variable {prog : Program} {w : World} {A : Around} {E : Value -> Shared -> Prop} {s : Shared} {K : Frag}
end
end Att
namespace L2
open PySem PySem.Spec PyProof.Rows
theorem vals_ints : ∀ {vs : List Value} {ns : List Int}, IntsAre vs ns -> Vals (ns.map V.int) vs
  | _, _, .nil => .nil
  | _, _, .cons n t h => .cons ⟨t, rfl⟩ (vals_ints h)
def Only (H : Hp) : Prop := ∀ b, H b = none \/ ∃ o xs, H b = some (.frz o (.lst xs))
theorem law_call {P : Program} {w : World} {K : PySem.W.Frag} {mg mb : Str -> Option Value} {CX : CXT} {k : Nat} {fa a : Addr} {fd : FuncData} {x : Str} {sp : Sp} {s₁ : Shared} {vs : List Value} {ns : List Int}
    (KX : K.In s₁.heap) (hns : s₁.heap.Ns mainGlobals mg) (hb : s₁.heap.Ns builtinsNs mb) (hbb : ∀ x : Str, x ≠ "__name__" -> mb x = bootBuiltins x) (hlim : s₁.heap.NoLimit) (hg : s₁.gens = #[])
    (ha : s₁.heap.get? a = some { cls := .type "list", data := .seq vs.toArray }) (hi : IntsAre vs ns) (hl : ns.length <= sizeLine) (hr : Room k callerA)
    (F : ∀ base : Heap, K.In base -> base.Ns mainGlobals mg -> FnOk P w K mg base CX k fa fd [x] sp) (hbind : ∀ (s : Shared) (u : Value), BindsTo s fd ⟨[u], []⟩ [(x, u)])
    (hsp : ∀ H : Hp, Only H -> SqL K H a (ns.map V.int) -> sp [.ref a] H (fun v _ => v = .bl true) fun _ _ _ => False)
    (hCX : ∀ H e s', CX [] H s₁ (fun _ _ _ => False) e s' -> False) :
    codeAny (model P w) callerA (.call (.ref fa) ⟨[.ref a], []⟩) (fun r s' => r = .ok (.ret (.bool true)) /\ OldK s₁.heap s'.heap /\ s'.os = s₁.os /\ AllBare s'.gens) s₁ := by
  have rv := vals_ints hi
  have lenV := hi.length
  have core : ∀ H : Hp, Only H -> SqL K H a (ns.map V.int) -> HOk P w H s₁.heap -> (∀ b, H b ≠ none -> b = a) -> (H a ≠ none -> K.lookup a = none) ->
      codeAny (model P w) callerA (.call (.ref fa) ⟨[.ref a], []⟩) (fun r s' => r = .ok (.ret (.bool true)) /\ OldK s₁.heap s'.heap /\ s'.os = s₁.os /\ AllBare s'.gens) s₁ := by
    intro H hO hS hok hA hK
    have base_of : ∀ {b : Addr} {o : Obj}, s₁.heap.get? b = some o -> H b = none -> (hidT s₁.heap H).get? b = some o := fun e n => hidT_get e n
    have noA : ∀ {b : Addr} {o : Obj} {es : Array DictEntry} {ep : Nat}, s₁.heap.get? b = some o -> o.data = .dict es ep -> H b = none := fun {b o es ep} e d => by
      cases q : H b with
      | none => rfl
      | some u =>
        have e' : b = a := hA b (by rw [q]; simp)
        subst e'
        rw [ha] at e; cases e
        have d' : Data.seq vs.toArray _ = Data.dict es ep := d
        cases d'
    have nsK : ∀ {b : Addr} {m : Str -> Option Value}, s₁.heap.Ns b m -> (hidT s₁.heap H).Ns b m := fun {b m} ⟨o, es, ep, e, d, r⟩ => ⟨o, es, ep, base_of e (noA e d), d, r⟩
    have hKb : K.In (hidT s₁.heap H) := fun b o e => base_of (KX b o e) (by
      cases q : H b with
      | none => rfl
      | some u =>
        have e' : b = a := hA b (by rw [q]; simp)
        subst e'
        rw [hK (by rw [q]; simp)] at e; cases e)
    have hM : Mod K mg (hidT s₁.heap H) := ⟨hKb, nsK hns, ⟨mb, nsK hb, hbb⟩, let ⟨mc, h1, h2⟩ := hlim; ⟨mc, nsK h1, h2⟩⟩
    have e0 : Env0 P w K mg (hidT s₁.heap H) callerA [] s₁ H := ⟨rfl, hM, fun b o e => of_hidT e, Nat.le_of_eq (hidT_size _ _), trivial, fun b hb => absurd (show b ∈ ([] : List Addr) from hb) (by simp), hok, .of_eq hg⟩
    refine codeAny_mono ((F _ hKb (nsK hns)).run callerA [] s₁ H ⟨[.ref a], []⟩ [.ref a] [.ref a] _ _ hr e0 (hbind s₁ (.ref a)) (.cons rfl .nil) (hsp H hO hS)) fun r s' h => ?_
    cases r with
    | error e => exact (hCX H e s' h).elim
    | ok fl =>
      cases fl with
      | next => exact False.elim h
      | brk => exact False.elim h
      | cont => exact False.elim h
      | ret u =>
        obtain ⟨v, H', os, bare, un, hok', r', q⟩ := h
        have q' : v = .bl true := q
        subst q'
        obtain rfl : u = Value.bool true := r'
        refine ⟨rfl, OldK.of_keep fun b o e => ?_, os, bare⟩
        cases q : H b with
        | none => exact un.keep b o e q (by intro z; exact absurd (show b ∈ ([] : List Addr) from z) (by simp)) (by simp)
        | some u =>
          rcases hO b with z | ⟨ob, xs, z⟩
          · rw [q] at z; cases z
          · have z2 := un.frzs b ob _ z
            obtain ⟨e1, _⟩ := hok b _ z
            obtain ⟨e2, _⟩ := hok' b _ z2
            rw [e] at e1; cases e1
            exact e2
  cases hk : K.lookup a with
  | some o =>
    have e := KX a o hk
    rw [ha] at e
    cases e
    refine core (fun _ => none) (fun _ => .inl rfl) (.inr ⟨_, vs.toArray, _, hk, rfl, rfl, rfl, by rw [List.size_toArray, lenV]; exact hl, by simpa using rv⟩) (fun b u z => by have z' : (none : Option HO) = some u := z; cases z') (fun b z => absurd rfl z) fun z => absurd rfl z
  | none =>
    refine core (fun b => if b = a then some (.frz { cls := .type "list", data := .seq vs.toArray } (.lst (ns.map V.int))) else none) (fun b => ?_) (.inl (.inr ⟨{ cls := .type "list", data := .seq vs.toArray }, if_pos rfl⟩)) (fun b u z => ?_) (fun b z => ?_) fun _ => hk
    · by_cases hb : b = a
      · exact .inr ⟨_, _, if_pos hb⟩
      · exact .inl (if_neg hb)
    · by_cases hb : b = a
      · have z' := (if_pos hb).symm.trans z
        cases z'
        subst hb
        exact ⟨ha, by rw [List.length_map]; exact hl, vs, _, rv, ha⟩
      · have z' := (if_neg hb).symm.trans z
        cases z'
    · by_cases hb : b = a
      · exact hb
      · exact absurd (if_neg hb) z
end L2
namespace L2
open PySem PySem.Spec PyProof.Rows
theorem walk_of {l : PySem.W.OpenLaw} {n k : Nat} {q : Program} {loose : List Str} {XP : (Str -> Option Value) -> Heap -> Prop} {YP : World -> Heap -> Prop} {d : DefRec} {K : Params -> PySem.W.Frag} {CX : World -> CXT} {sp : World -> Sp} {x : Str}
    (hn : l.most = some n) (hn2 : n <= sizeLine) (hdf : d.params.defaults = []) (hr : Room k callerA)
    (hY : ∀ (w : World) (h : Heap), YP w h -> (K w.params).In h)
    (F : ∀ (w : World) (mg : Str -> Option Value) (fa : Addr) (h : Heap), (K w.params).In h -> h.Ns mainGlobals mg -> mg d.name = some (.ref fa) ->
      ∃ fd : FuncData, (∀ (s : Shared) (u : Value), BindsTo s fd ⟨[u], []⟩ [(x, u)]) /\
        ∀ base : Heap, (K w.params).In base -> base.Ns mainGlobals mg -> FnOk l.prog w (K w.params) mg base (CX w) k fa fd [x] (sp w))
    (hsp : ∀ (w : World) (H : Hp) (a : Addr) (ns : List Int), ns.length <= n -> Only H -> SqL (K w.params) H a (ns.map V.int) -> sp w [.ref a] H (fun v _ => v = .bl true) fun _ _ _ => False)
    (hCX : ∀ (w : World) (H : Hp) (s : Shared) (e : Value) (s' : Shared), CX w [] H s (fun _ _ _ => False) e s' -> False) :
    PySem.W.WalkO q loose XP YP l.row.toRowW d [] (fun f vs => PySem.call f vs) := by
  refine Att.attach_call hn hdf fun w s₀ s₁ mg mb fa o pm cd doc a vs ns G Y ho hd hcd hmg hobj hints hlen hg => ?_
  have KX := hY w _ Y
  obtain ⟨fd, hb, hF⟩ := F w mg fa _ KX G.T.g hmg
  exact law_call KX G.T.g G.T.b G.T.builtins G.T.nolimit hg hobj hints (Nat.le_trans hlen hn2) hr hF hb (fun H hO hS => hsp w H a ns hlen hO hS) fun H e s' => hCX w H s₁ e s'
end L2
namespace L2
open PySem PySem.Spec PyProof.Rows
def defArgs (s : Stmt) : Arguments := match s with
  | .FunctionDef _ a _ _ _ _ _ _ _ _ => a
  | _ => { posonlyargs := [], args := [], vararg := none, kwonlyargs := [], kw_defaults := [], kwarg := none, defaults := [] }
def defBody (s : Stmt) : List Stmt := match s with
  | .FunctionDef _ _ b _ _ _ _ _ _ _ => b
  | _ => []
def defScope (s : Stmt) : Scope := match s with
  | .FunctionDef _ _ _ _ _ _ sc _ _ _ => sc
  | _ => { kind := .function, names := [], isGenerator := false, isCoroutine := false }
abbrev CX0 : CXT := fun _ _ _ _ _ _ => False
structure Fun (K : PySem.W.Frag) (x qual : Str) (st : Stmt) (f : Addr) (fd : FuncData) : Prop where
  ex : ∃ (oc : Value) (od : Option Addr) (kV doc pm : Value) (an : Option Addr) (cdv ct : Value) (osl : Array (Option Value)),
    fd = PySem.W.fnOf x qual (defArgs st) (defBody st) (defScope st) .none kV doc pm an cdv ct /\ K.lookup f = some ⟨oc, od, .func fd, osl⟩ /\ PySem.W.codeIn K cdv qual = true
  kp : PySem.W.keepIn K (.ref f) = true
section
variable {P : Program} {w : World} {K : PySem.W.Frag} {mg : Str -> Option Value} {base : Heap}
theorem Fun.ok {x qual : Str} {st : Stmt} {f : Addr} {fd : FuncData} {N ps : List Str} {k : Nat} {sp : Sp} (F : Fun K x qual st f fd) (S : FnScope N ps (defScope st)) (len : ∀ vs H Q E, sp vs H Q E -> vs.length = ps.length)
    (hbody : ∀ (cdv : Value) (A : Around) (outer : List Env) (s : Shared) (H : Hp) (vs : List V) (Q : VK) (E : XK), Room k (A.deeper (envOfC qual (defScope st) s.heap.objs.size f cdv)) -> sp vs H Q E ->
      ∃ t, PSs (cxOf CX0 P w K mg base N qual (defScope st) f cdv A outer s H E).nox (defBody st) t /\ t { nx := fun _ H' => Q .non H', rt := Q } (start N vs) H) : FnOk P w K mg base CX0 (k + 1) f fd ps sp := by
  obtain ⟨oc, od, kV, doc, pm, an, cdv, ct, osl, rfl, lk, hcd⟩ := F.ex
  refine fn_of lk hcd S len fun A outer s H vs Q E hr hsp => ?_
  obtain ⟨t, h, q⟩ := hbody cdv A outer s H vs Q E hr hsp
  exact ⟨t, h.nox, q⟩
theorem Fun.binds {x qual : Str} {st : Stmt} {f : Addr} {fd : FuncData} {ps : List Str} (F : Fun K x qual st f fd)
    (h : ∀ (kV doc pm : Value) (an : Option Addr) (cdv ct : Value) (us : List Value), us.length = ps.length -> bindArgs (PySem.W.fnOf x qual (defArgs st) (defBody st) (defScope st) .none kV doc pm an cdv ct) ⟨us, []⟩ = pure (ps.zip us)) : Binds K fd ps [] := by
  obtain ⟨oc, od, kV, doc, pm, an, cdv, ct, osl, rfl, lk, hcd⟩ := F.ex
  exact .all (h kV doc pm an cdv ct)
theorem fun_mk {x qual : Str} {st : Stmt} {f : Addr} {oc : Value} {od an : Option Addr} {osl : Array (Option Value)} {kV doc pm cdv ct : Value} (l : K.lookup f = some ⟨oc, od, .func (PySem.W.fnOf x qual (defArgs st) (defBody st) (defScope st) .none kV doc pm an cdv ct), osl⟩)
    (c : PySem.W.codeIn K cdv qual = true) (k : PySem.W.keepIn K (.ref f) = true) : Fun K x qual st f (PySem.W.fnOf x qual (defArgs st) (defBody st) (defScope st) .none kV doc pm an cdv ct) := ⟨⟨oc, od, kV, doc, pm, an, cdv, ct, osl, rfl, l, c⟩, k⟩
end
section
variable {X : Cx}
theorem pv (i : Nat) {x : Str} {pos : Pos} (hN : X.N[i]? = some x := by rfl) (hv : Vis X.env.scope x := by first | exact Or.inl rfl | exact Or.inr (Or.inl rfl) | exact Or.inr (Or.inr rfl)) (hd : (x == ("__debug__" : Str)) = false := by decide)
    (hcd : (x == ("__classdict__" : Str)) = false := by decide) : PE X (.Name x pos) (tVar i) := pe_var hN hv hd hcd
end
def Same (H H' : Hp) : Prop := ∀ b o, H b = some o -> H' b = some o
theorem Same.refl (H : Hp) : Same H H := fun _ _ h => h
theorem Same.trans {H H1 H2 : Hp} (a : Same H H1) (b : Same H1 H2) : Same H H2 := fun c o h => b c o (a c o h)
theorem Same.free {H H' : Hp} (e : Same H H') {l : Addr} (h : H' l = Option.none) : H l = Option.none := by
  cases q : H l with
  | none => rfl
  | some o =>
    rw [e l o q] at h
    cases h
theorem Same.seq {K : PySem.W.Frag} {H H' : Hp} {a : Addr} {xs : List V} (e : Same H H') (h : SqL K H a xs) : SqL K H' a xs := by
  rcases h with (h | ⟨o, h⟩) | h
  · exact .inl (.inl (e _ _ h))
  · exact .inl (.inr ⟨o, e _ _ h⟩)
  · exact .inr h
end L2
set_option Elab.async false
set_option linter.all false
set_option maxRecDepth 100000
set_option maxHeartbeats 4000000
namespace L2
open PySem PySem.Spec PyProof.Rows
abbrev cxComp (X : Cx) (nm : List Str) (scope : Scope) (cl : List (Str × Addr)) (C : Addr) (s0 : Shared) (H0 : Hp) (fp : List Addr) : Cx :=
  { X with N := nm, s₀ := s0, H₀ := H0, env := compEnvC scope cl C X.env, outer := X.stack, stack := X.stack, ex := fp, fn := fun _ => false, pn := [], xe := fun _ _ => False }
def PTs (X : Cx) (ifs : List Expr) (t : TT) : Prop :=
  ∀ (pins : List (Addr × Obj)) (s : Shared) (σ : St) (H : Hp) (Q : Bool -> Hp -> Prop), Inv X pins σ H s -> t σ H Q ->
    wpAny (model X.prog X.w) X.A (forIn ifs true fun c r => if r = true then do let ok <- isTrue c X.env (eval c X.env); pure (ForInStep.yield ok) else pure (ForInStep.yield r)) (TP X pins σ Q) X.xe s
def tYes : TT := fun _ H Q => Q true H
theorem pts_nil {X : Cx} : PTs X [] tYes := fun _ _ _ H _ I h => wpAny_tests_nil ⟨H, I, h⟩
theorem pts_one {X : Cx} {c : Expr} {t : TT} (hc : PT X c t) : PTs X [c] t := fun pins s σ H Q I h => wpAny_tests_one (hc pins s σ H Q I h)
def capSt (cap : List (Option Nat)) (σ : St) : St := cap.map fun o => o.bind fun j => (σ[j]?).join
def tComp (cap : List (Option Nat)) (wi : TI) (g : TG) (tc : TT) (te : TE) : TE := fun σ H Q => wi σ H fun J H1 => ∃ W : Nat -> Nat -> List V -> Hp -> Prop, (∃ m, W 0 m [] H1) /\ ∀ i m ys H2, W i m ys H2 ->
  (J.stop i H2 /\ ys.length <= sizeLine /\ ∀ p, H2 p = none -> Q (.ref p) (upd H2 p (.lst ys))) \/
  (J.go i H2 /\ ∀ x H3, J.yld i H2 x H3 -> g x (capSt cap σ) H3 fun σ2 H4 => tc σ2 H4 fun b H5 => if b = true then te σ2 H5 fun y H6 => ys.length < sizeLine /\ ∃ m', m' < m /\ W (i + 1) m' (ys ++ [y]) H6 else ∃ m', m' < m /\ W (i + 1) m' ys H5)
theorem Un.cellK {fs ex : List Addr} {H H' : Hp} {h h' : Heap} (u : Un fs ex H H' h h') {c : Addr} {v : Option Value} (x : h.IsCell c v) (n : H c = none) (he : c ∉ ex) : h'.IsCell c v := by
  obtain ⟨o, ho, hd⟩ := x
  obtain ⟨sl, q⟩ := u.any ho n he
  exact ⟨_, q, hd⟩
structure CapOk (X : Cx) (scope : Scope) (cl : List (Str × Addr)) (x : Str) : Prop where
  vis : Vis X.env.scope x
  nl : X.env.scope.names.lookup x ≠ some .local
  cl : cl.lookup x = X.env.cells.lookup x
  kd : (relabel scope X.env).names.lookup x = some .cell \/ (relabel scope X.env).names.lookup x = some .free
section
variable {X : Cx} {elt tg iter : Expr} {ifs : List Expr} {scope : Scope} {pos : Pos} {nm : List Str} {cl : List (Str × Addr)} {cap : List (Option Nat)} {wi : TI} {g : TG} {tc : TT} {te : TE}
theorem recap {pins pins2 : List (Addr × Obj)} {σ σ2 : St} {H1 H : Hp} {s2 s : Shared} {C : Addr} {fp : List Addr}
    (hcap : ∀ (i j : Nat), cap[i]? = some (some j) -> ∃ x, nm[i]? = some x /\ X.N[j]? = some x /\ CapOk X scope cl x) (hlen : cap.length = nm.length)
    (I2 : Inv X pins σ H1 s2) (hfp : ∀ b ∈ fp, ∀ x c, X.env.cells.lookup x = some c -> c ≠ b)
    (I : Inv (cxComp X nm scope cl C s2 H1 fp) pins2 σ2 H s) : Inv (cxComp X nm scope cl C s2 H1 fp) pins2 (capSt cap σ) H s := by
  refine ⟨I.ok, I.os, I.bare, I.base, ?_, I.cell, I.free, I.freeC, I.pin, I.hok, by show (capSt cap σ).length = nm.length; unfold capSt; rw [List.length_map]; exact hlen⟩
  obtain ⟨m, hn, _⟩ := I.loc
  refine ⟨m, hn, fun i x v e1 e2 e3 => ?_⟩
  unfold capSt at e2
  rw [List.getElem?_map] at e2
  cases hc : cap[i]? with
  | none => rw [hc] at e2; cases e2
  | some oj =>
    cases oj with
    | none => rw [hc] at e2; cases e2
    | some j =>
      rw [hc] at e2
      have e2' : (σ[j]?).join = some v := by simpa using e2
      have e2 : σ[j]? = some (some v) := by
        cases hs : σ[j]? with
        | none => rw [hs] at e2'; cases e2'
        | some ov => rw [hs] at e2'; simp at e2'; rw [e2']
      obtain ⟨x', f1, f2, k⟩ := hcap i j hc
      have hx : x' = x := by
        have z : nm[i]? = some x := e1
        rw [f1] at z; exact Option.some.inj z
      subst hx
      obtain ⟨m2, _, hl2⟩ := I2.loc
      obtain ⟨u, r, l⟩ := hl2 j x' v f2 e2 k.vis
      refine ⟨u, r, ?_⟩
      rcases l with ⟨kl, _⟩ | ⟨_, c, hcc, hcell⟩
      · exact absurd kl k.nl
      · refine .inr ⟨k.kd, c, by rw [<- hcc]; exact k.cl, ?_⟩
        exact I.base.cellK hcell (I2.freeC _ _ hcc) fun z => hfp c z _ _ hcc rfl
theorem append_plain {prog : Program} {w : World} {A : Around} {E : Value -> Shared -> Prop} {s : Shared} {l : Addr} {its : List Value} {n : Nat} {u : Value} {Q : Value -> Shared -> Prop}
    (e : s.heap.get? l = some { cls := .type "list", data := .seq its.toArray n }) (hz : its.length < sizeLine)
    (h : ∀ (h' : Heap) (n' tk : Nat), h'.get? l = some { cls := .type "list", data := .seq (its ++ [u]).toArray n' } -> (∀ b o, b ≠ l -> s.heap.get? b = some o -> h'.get? b = some o) -> Q .none { s with heap := h', toks := tk }) :
    wpAny (model prog w) A (call (.builtin "list.append") [.ref l, u]) Q E s := by
  refine call_meets F.slot_list_append ⟨_, e, rfl⟩ F.entry_list_append (F.args_list_append_2 _ _) (PySem.list_append l its.toArray n u (by rw [List.size_toArray]; omega)) ⟨e, ?_⟩
  have q := PySem.IsL.update e (fun a => a.push u)
  have q2 : (s.heap.update l (Obj.mapSeq fun x => x.push u)).get? l = some { cls := .type "list", data := .seq (its ++ [u]).toArray (if ((its.toArray.push u).size == its.toArray.size) = true then n else n + 1) } := by
    rw [show (s.heap.update l (Obj.mapSeq fun x => x.push u)).get? l = _ from q]; simp
  exact h _ _ s.toks q2 fun b o hb ho => (Heap.get?_update_other s.heap (Obj.mapSeq _) (Ne.symm hb)).trans ho
theorem pe_comp (hcalm : X.calm = true) (hclos : closureFor scope X.env = pure cl) (hcl : ∀ x c, cl.lookup x = some c -> X.env.cells.lookup x = some c)
    (hkind : scope.kind = .function) (hnames : ∀ x ∈ scope.names, x.2 = .local -> scope.names.lookup x.1 = some .local) (hcell : ∀ y ∈ scope.names, y.2 ≠ .cell)
    (hhas : ∀ x, ((relabel scope X.env).names.lookup x = some .cell \/ (relabel scope X.env).names.lookup x = some .free) -> ∃ c, cl.lookup x = some c)
    (hcap : ∀ (i j : Nat), cap[i]? = some (some j) -> ∃ x, nm[i]? = some x /\ X.N[j]? = some x /\ CapOk X scope cl x) (hlen : cap.length = nm.length)
    (hi : PI X tg iter wi) (hg : ∀ C s0 H0 fp, PG (cxComp X nm scope cl C s0 H0 fp) tg g) (ht : ∀ C s0 H0 fp, PTs (cxComp X nm scope cl C s0 H0 fp) ifs tc)
    (he : ∀ C s0 H0 fp, PE (cxComp X nm scope cl C s0 H0 fp) elt te) (hs : ∀ x, foldedSetIterable iter X.env x = pure x := by intro _; rfl) :
    PE X (.ListComp elt [⟨tg, iter, ifs, 0⟩] scope pos) (tComp cap wi g tc te) := by
  intro pins s σ H Q I h
  rw [eval_ListComp]
  refine wpAny_comprehension_free (use := none) rfl hs hclos hkind hnames (thn (hi pins s σ H _ I h) fun v s1 h1 => thn h1 fun itv s2 h2 => ?_)
  obtain ⟨it, fp, tn, J, H1, e, I2, T, st2, f2, W, ⟨m0, w0⟩, turn⟩ := h2
  subst e
  have hfpn : ∀ b ∈ fp, b < s2.heap.objs.size := fun b hb => let ⟨o, ho, _⟩ := T.obj _ _ st2 b hb; Heap.lt_size ho
  have hfpc : ∀ b ∈ fp, ∀ x c, X.env.cells.lookup x = some c -> c ≠ b := fun b hb => (f2 b hb).2.2.2.2.1
  refine wpAny_newObj_type (wpAny_newFunctionEnv hcell (by intro y hy; simp at hy) (fun h₁ hns₁ hsb₁ => ?_) hkind)
  dsimp only at hns₁ hsb₁ ⊢
  generalize hH2 : s2.heap.push { cls := .type "list", dict := none, data := .seq ([] : List Value).toArray } = G2 at hns₁ hsb₁ ⊢
  have hC : G2.objs.size = s2.heap.objs.size + 1 := by rw [<- hH2, Heap.size_push]
  have hDC : s2.heap.objs.size ≠ G2.objs.size := by rw [hC]; exact Nat.ne_of_lt (Nat.lt_succ_self _)
  have old : ∀ b o, s2.heap.get? b = some o -> h₁.get? b = some o := fun b o e => hsb₁.extBut b o (by rw [hC]; exact Nat.ne_of_lt (Nat.lt_succ_of_lt (Heap.lt_size e))) (Heap.get?_push_of_some _ (hH2 ▸ Heap.get?_push_of_some _ e))
  have hacc : h₁.get? s2.heap.objs.size = some { cls := .type "list", data := .seq ([] : List Value).toArray } := hsb₁.extBut _ _ hDC (Heap.get?_push_of_some _ (hH2 ▸ Heap.get?_push_size _ rfl))
  have okB : (cxComp X nm scope cl G2.objs.size s2 H1 fp).Ok := by
    refine ⟨I2.ok.mod, hkind, I2.ok.glob, I2.ok.blt, by show s2.heap.objs.size <= G2.objs.size; omega, fun x y c h1 h2 => I2.ok.inj x y c (hcl _ _ h1) (hcl _ _ h2), fun x hx => hhas x hx, fun x c h0 => (by cases h0), fun hc => I2.ok.hd hcalm, I2.ok.frames, .inl rfl, ?_, ?_, ?_, ?_, ?_, ?_, ?_⟩
    · intro b hb
      exact ⟨Nat.ne_of_lt (Nat.lt_of_lt_of_le (hfpn b hb) (by show _ <= G2.objs.size; omega)), fun x c hx => hfpc b hb x c (hcl _ _ hx)⟩
    · exact fun b o hb => I2.bs b o hb
    · exact Nat.le_trans I2.ok.bsz I2.sz
    · intro b o hb z
      rcases (f2 b z).2.2.2.1 with q | q
      · exact I2.ok.noex b o hb q
      · exact absurd (Heap.lt_size (I2.ok.bs b o hb).1) (Nat.not_lt.mpr q)
    · intro b hb z
      rcases List.mem_cons.mp (I2.stkSub b z) with q | q
      · exact (f2 b hb).2.1 q
      · exact (f2 b hb).2.2.1 q
    · exact I2.stack
    · exact I2.stkFree
  have I4 : Inv (cxComp X nm scope cl G2.objs.size s2 H1 fp) [] (capSt cap σ) H1 { s2 with heap := h₁, toks := s2.toks + ([] : List (Str × Value)).length } := by
    refine recap hcap hlen I2 hfpc (σ2 := List.replicate nm.length none) ⟨okB, rfl, I2.bare, Un.kept old, ⟨_, hns₁, fun i x v _ e2 => ?_⟩, fun x c hx => ?_, ?_, fun x c hx => I2.freeC x c (hcl _ _ hx), fun p hp => absurd hp (by simp), I2.hok.kept old, by simp⟩
    · rw [List.getElem?_replicate] at e2; split at e2 <;> cases e2
    · obtain ⟨v, hv⟩ := I2.cell x c (hcl _ _ hx)
      exact ⟨v, hv.keeps old⟩
    · exact I2.hok.fresh (by show _ <= G2.objs.size; omega)
  have hsz0 : ∀ {Hx : Hp} {sx : Shared} {px : List (Addr × Obj)} {σx : St}, Inv (cxComp X nm scope cl G2.objs.size s2 H1 fp) px σx Hx sx -> Hx s2.heap.objs.size = none -> ∀ {oa : Obj}, sx.heap.get? s2.heap.objs.size = some oa -> (∀ v, oa.data ≠ .cell v) ->
      Inv (cxComp X nm scope cl G2.objs.size s2 H1 fp) [(s2.heap.objs.size, oa)] σx Hx sx := fun {Hx sx px σx} Ix hn {oa} ho hd => Ix.pins_of fun p hp => by
    have e : p = (s2.heap.objs.size, oa) := by simpa using hp
    subst e
    exact ⟨ho, hn, hDC, fun z => by
      obtain ⟨_, o, q, _⟩ := I2.stack.mem z
      exact absurd (Heap.lt_size q) (Nat.lt_irrefl _), hd⟩
  have hfpB : ∀ {Hx : Hp} {oa : Obj}, (∀ b ∈ fp, Hx b = none) -> ∀ b ∈ fp, FpOk (cxComp X nm scope cl G2.objs.size s2 H1 fp) [(s2.heap.objs.size, oa)] Hx b := fun {Hx oa} hn b hb =>
    ⟨hn b hb, (okB.exf b hb).1, okB.exfs b hb, .inl hb, (okB.exf b hb).2, fun p hp => by
      have e : p = (s2.heap.objs.size, oa) := by simpa using hp
      subst e
      exact Nat.ne_of_gt (hfpn b hb)⟩
  have hcalmB : (cxComp X nm scope cl G2.objs.size s2 H1 fp).calm = true := hcalm
  have loop : ∀ sx : Shared, sx = { s2 with heap := h₁, toks := s2.toks + ([] : List (Str × Value)).length } ->
      codeAny (model X.prog X.w) X.A (.compLoop (.ListComp elt [⟨tg, iter, ifs, 0⟩] scope pos) 0 (.ref it) (.ref s2.heap.objs.size) (compEnvC scope cl G2.objs.size X.env))
        (compPost (model X.prog X.w) X.A X.xe none (EP X pins σ Q) (.ref s2.heap.objs.size) G2.objs.size) sx := by
    rintro sx rfl
    refine codeAny_loop rfl (fun n s' => ∃ i ys H', Inv (cxComp X nm scope cl G2.objs.size s2 H1 fp) [] (capSt cap σ) H' s' /\ tn i s'.heap /\ (∀ b ∈ fp, H' b = none) /\ H' s2.heap.objs.size = none /\
      (∃ its k, Vals ys its /\ s'.heap.get? s2.heap.objs.size = some { cls := .type "list", data := .seq its.toArray k }) /\ W i n ys H') ?_ m0
      ⟨0, [], H1, I4, T.keep _ _ _ st2 (fun b _ o e => old b o e), fun b hb => (f2 b hb).1, I2.fresh, ⟨[], 0, .nil, hacc⟩, w0⟩
    rintro n s3 ⟨i, ys, H3, I3, st3, fr3, na3, ⟨its, ka, rv, ea⟩, w3⟩
    show wpAny _ X.A ((compTurn (.ListComp elt [⟨tg, iter, ifs, 0⟩] scope pos) 0 (.ref it) (.ref s2.heap.objs.size) (compEnvC scope cl G2.objs.size X.env)).onRaise (fun x => do noteFrame x (compEnvC scope cl G2.objs.size X.env); theTreesLotGoes x)) _ _ s3
    refine wpAny_noted ?_
    rw [compTurn_list]
    refine wpAny_bind (wpAny_standAt ?_)
    have I3p := hsz0 I3 na3 ea (fun v z => by cases z)
    rcases turn i n ys H3 w3 with ⟨stop, hz, qn⟩ | ⟨go, step⟩
    · refine wpAny_bind (wpAny_mono (T.done (cxComp X nm scope cl G2.objs.size s2 H1 fp) rfl rfl rfl hcalmB i _ s3 _ H3 (fun _ _ => False) I3p (hfpB fr3) st3 stop) (fun r s4 hr => ?_) fun _ _ z => z.elim)
      obtain ⟨hr, I4'⟩ := hr
      subst hr
      refine wpAny_pure ?_
      obtain ⟨m4, hn4, _⟩ := id I4'.loc
      refine ⟨m4, hn4, fun h' hs' => ?_⟩
      have pa := I4'.pin (s2.heap.objs.size, { cls := .type "list", data := .seq its.toArray ka }) (by simp)
      have ne : ∀ b o, s2.heap.get? b = some o -> b ≠ s2.heap.objs.size /\ b ≠ G2.objs.size := fun b o e => ⟨Nat.ne_of_lt (Heap.lt_size e), Nat.ne_of_lt (by rw [hC]; exact Nat.lt_succ_of_lt (Heap.lt_size e))⟩
      have kp : ∀ b o, b ≠ G2.objs.size -> s4.heap.get? b = some o -> h'.get? b = some o := fun b o hb e => hs'.extBut b o hb e
      refine ⟨.ref s2.heap.objs.size, upd H3 s2.heap.objs.size (.lst ys), ?_, rfl, qn _ na3⟩
      refine I2.call' (ch := fp) I4'.os ⟨fun b o e n hb hx => ?_, fun b o e n hb hx => ?_, fun b o e n hx => ?_, fun b o e hx => ?_, fun b xs e => ?_, fun b o u e => ?_, fun b ps e => ?_⟩ ?_ I4'.bare fun b hb => ?_
      · exact kp b o (ne b o e).2 (I4'.base.keep b o e n hb hx)
      · obtain ⟨sl, q⟩ := I4'.base.slot b o e n hb hx
        exact ⟨sl, kp b _ (ne b o e).2 q⟩
      · rw [upd_ne (ne b o e).1]; exact I4'.base.free b o e n hx
      · obtain ⟨o', q⟩ := I4'.base.there b o e hx
        exact ⟨o', kp b _ (ne b o e).2 q⟩
      · have q := I4'.base.tups b xs e
        rw [upd_ne (ne_of_none q na3)]; exact q
      · have q := I4'.base.frzs b o u e
        rw [upd_ne (ne_of_none q na3)]; exact q
      · obtain ⟨mr, q⟩ := I4'.base.tbls b ps e
        exact ⟨mr, by rw [upd_ne (ne_of_none q na3)]; exact q⟩
      · intro b o e
        by_cases hb : b = s2.heap.objs.size
        · subst hb
          rw [upd_same] at e; cases e
          exact ⟨hz, its, ka, rv, kp _ _ hDC pa.1⟩
        · rw [upd_ne hb] at e
          refine (I4'.hok b o e).stay (fun c u hc q => kp c u (fun z => ?_) q) (fun c q => by rw [upd_ne (ne_of_none q na3)]; exact q) fun c xs q => by rw [upd_ne (ne_of_none q na3)]; exact q
          subst z
          have fr : H3 G2.objs.size = none := I4'.free
          rcases hc with rfl | hc
          · rw [fr] at e; cases e
          · rw [fr] at hc; cases hc
      · obtain ⟨_, g1, _, g3, g4, g5⟩ := f2 b hb
        exact ⟨g3, g1, g4, g5⟩
    · refine wpAny_bind (wpAny_mono (T.item (cxComp X nm scope cl G2.objs.size s2 H1 fp) rfl rfl rfl hcalmB i _ s3 _ H3 (fun _ _ => False) I3p (hfpB fr3) st3 go) (fun r s4 hr => ?_) fun _ _ z => z.elim)
      obtain ⟨u, hr, h4⟩ := hr
      subst hr
      dsimp only
      refine wpAny_bind (wpAny_mono h4 (fun _ s5 h5 => ?_) fun _ _ z => z.elim)
      obtain ⟨x, H5, I5, r5, y5, st5, fr5⟩ := h5
      have I5' := I5.pinned (hfpB fr5) (T.obj _ _ st5)
      refine wpAny_bind (wpAny_mono (hg _ _ _ _ _ s5 _ H5 x u _ I5' r5 (step x H5 y5)) (fun _ s6 h6 => ?_) fun _ _ z => z.elim)
      obtain ⟨σ6, H6, I6, q6⟩ := h6
      refine wpAny_bind (wpAny_mono (ht _ _ _ _ _ s6 σ6 H6 _ I6 q6) (fun ok s7 h7 => ?_) fun _ _ z => z.elim)
      obtain ⟨H7, I7, q7⟩ := h7
      have back : ∀ {H8 : Hp} {s8 : Shared} {ys' : List V} {its' : List Value} {k' : Nat}, Inv (cxComp X nm scope cl G2.objs.size s2 H1 fp) [] σ6 H8 s8 -> (∀ b ∈ fp, ∀ o, s5.heap.get? b = some o -> s8.heap.get? b = some o) -> (∀ b ∈ fp, H8 b = none) -> H8 s2.heap.objs.size = none ->
          Vals ys' its' -> s8.heap.get? s2.heap.objs.size = some { cls := .type "list", data := .seq its'.toArray k' } -> (∃ m', m' < n /\ W (i + 1) m' ys' H8) ->
          ∃ m, m < n /\ ∃ i ys H', Inv (cxComp X nm scope cl G2.objs.size s2 H1 fp) [] (capSt cap σ) H' s8 /\ tn i s8.heap /\ (∀ b ∈ fp, H' b = none) /\ H' s2.heap.objs.size = none /\
            (∃ its k, Vals ys its /\ s8.heap.get? s2.heap.objs.size = some { cls := .type "list", data := .seq its.toArray k }) /\ W i m ys H' :=
        fun {H8 s8 ys' its' k'} I8 kf f8 n8 rv8 e8 ⟨m', hm, w8⟩ => ⟨m', hm, i + 1, ys', H8, recap hcap hlen I2 hfpc I8, T.keep _ _ _ st5 kf, f8, n8, ⟨its', k', rv8, e8⟩, w8⟩
      cases ok with
      | false =>
        refine wpAny_pure ⟨rfl, ?_⟩
        have q7' : ∃ m', m' < n /\ W (i + 1) m' ys H7 := by simpa using q7
        have pa := I7.pin (s2.heap.objs.size, { cls := .type "list", data := .seq its.toArray ka }) (by simp)
        refine back (I7.pins_of fun p hp => absurd hp (by simp)) (fun b hb o e => ?_) (fun b hb => ?_) pa.2.1 rv pa.1 q7'
        · exact (I7.pin (b, o) (List.mem_append_right _ (List.mem_append_right _ (mem_pinsAt hb e)))).1
        · obtain ⟨o, e, d⟩ := T.obj _ _ st5 b hb
          exact (I7.pin (b, o) (List.mem_append_right _ (List.mem_append_right _ (mem_pinsAt hb e)))).2.1
      | true =>
        rw [if_pos rfl] at q7
        refine wpAny_bind (wpAny_bind (wpAny_mono (he _ _ _ _ _ s7 σ6 H7 _ I7 q7) (fun xv s8 h8 => ?_) fun _ _ z => z.elim))
        obtain ⟨y, H8, I8, r8, hzy, q8⟩ := h8
        have pa := I8.pin (s2.heap.objs.size, { cls := .type "list", data := .seq its.toArray ka }) (by simp)
        refine wpAny_bind (append_plain pa.1 (by rw [<- rv.length]; exact hzy) fun h' k' tk e9 sb => ?_)
        refine wpAny_pure (wpAny_pure ⟨rfl, ?_⟩)
        have I9 : Inv (cxComp X nm scope cl G2.objs.size s2 H1 fp) [] σ6 H8 { s8 with heap := h', toks := tk } :=
          (Inv.pins_of (pins' := []) I8 fun p hp => absurd hp (by simp)).turned (it := s2.heap.objs.size) (fun b o hb e => sb b o hb e) pa.2.1 hDC (.inr (Nat.le_refl _)) (fun x c hx z => by
            obtain ⟨v, hv⟩ := I2.cell x c (hcl _ _ hx)
            exact absurd hv.lt (by rw [z]; exact Nat.lt_irrefl _)) (fun p hp => absurd hp (by simp))
        refine back I9 (fun b hb o e => ?_) (fun b hb => ?_) pa.2.1 (rv.append (.cons r8 .nil)) e9 q8
        · exact sb b o (Nat.ne_of_lt (hfpn b hb)) (I8.pin (b, o) (List.mem_append_right _ (List.mem_append_right _ (mem_pinsAt hb e)))).1
        · obtain ⟨o, e, d⟩ := T.obj _ _ st5 b hb
          exact (I8.pin (b, o) (List.mem_append_right _ (List.mem_append_right _ (mem_pinsAt hb e)))).2.1
  exact codeAny_compStart_list (loop _ rfl) (T.self _ _ _ _ _ (T.keep _ _ _ st2 fun b _ o e => old b o e) (loop _ rfl))
end
end L2
set_option Elab.async false
set_option linter.all false
set_option maxRecDepth 100000
set_option maxHeartbeats 4000000
namespace L2
open PySem PySem.Spec PyProof.Rows
def tx (l : List Nat) : Str := ⟨l.toArray⟩
theorem tx_cps (l : List Nat) : (tx l).cps.toList = l := rfl
theorem tx_of (z : Str) : tx z.cps.toList = z := by cases z; rfl
theorem tx_len (l : List Nat) : (tx l).length = l.length := by show l.toArray.size = _; simp
theorem tx_app (a b : List Nat) : tx a ++ tx b = tx (a ++ b) := by
  show (⟨a.toArray ++ b.toArray⟩ : Str) = ⟨(a ++ b).toArray⟩
  simp
theorem tx_inj {a b : List Nat} : tx a = tx b ↔ a = b := ⟨fun h => by have := congrArg (fun z : Str => z.cps.toList) h; exact this, fun h => by rw [h]⟩
def Itv (vals : List V) : It := ⟨fun i _ => i < vals.length, fun i H x H' => H' = H /\ vals[i]? = some x, fun i _ => vals.length <= i⟩
theorem turn_walks {P : Program} {w : World} {K : PySem.W.Frag} {tg : Expr} {it : Addr} {vals : List V} {Pr : Nat -> Value -> Prop} {S : Nat -> Heap -> Prop} {ty : String}
    (W : ∀ A : Around, A.handled = none -> Walks P w A it [it] [it] vals.length Pr S) (hv : ∀ i v, i < vals.length -> Pr i v -> ∃ x, vals[i]? = some x /\ RelV x v)
    (hob : ∀ i h, S i h -> ∃ o vs, h.get? it = some o /\ o.cls = .type ty /\ o.data = .fields vs)
    (hty : ["enumerate", "zip", "dict_itemiterator", "dict_reverseitemiterator", "odict_iterator", "itertools.zip_longest", "itertools.pairwise"].contains ty = false)
    (hself : ∀ (A : Around) (i : Nat) (s : Shared) (Q : Value -> Shared -> Prop) (E : Value -> Shared -> Prop), S i s.heap -> Q (.ref it) s -> wpAny (model P w) A (pyIter (.ref it)) Q E s) :
    Turn P w K tg (Itv vals) [it] it (fun i h => i <= vals.length /\ S i h) where
  mem := by simp
  obj := fun i h st b hb => by
    have e : b = it := by simpa using hb
    subst e
    obtain ⟨o, vs, e, c, d⟩ := hob i h st.2
    exact ⟨o, e, fun v z => by rw [d] at z; cases z⟩
  keep := fun i h h' st k => ⟨st.1, (W { depth := 0, handled := none, frames := none } rfl).frame i h h' st.2 k⟩
  item := by
    intro X hP hw hK hc i pins s σ H E I hf st hg
    subst hP hw hK
    obtain ⟨f0, f1, f2, f3, f4, f5⟩ := hf it (by simp)
    refine (W X.A (I.ok.hd hc)).item i s _ _ hg st.2 fun v h' tk hp st' kk => ?_
    have I1 : Inv X pins σ H { s with heap := h', toks := tk } := I.turned (fun b o hb e => kk b o (by simpa using hb) e) f0 f1 f3 f4 f5
    obtain ⟨x, hx, rx⟩ := hv i v hg hp
    obtain ⟨o, vs, e, c, d⟩ := hob _ _ st'
    exact ⟨v, rfl, go_of (s := { s with heap := h', toks := tk }) e c d hty ⟨x, H, I1, rx, ⟨rfl, hx⟩, ⟨hg, st'⟩, fun b hb => (hf b hb).1⟩⟩
  done := by
    intro X hP hw hK hc i pins s σ H E I hf st hg
    subst hP hw hK
    obtain ⟨f0, f1, f2, f3, f4, f5⟩ := hf it (by simp)
    have e : i = vals.length := Nat.le_antisymm st.1 hg
    refine (W X.A (I.ok.hd hc)).done s _ _ (e ▸ st.2) fun h' tk kk => ⟨rfl, I.turned (fun b o hb e => kk b o (by simpa using hb) e) f0 f1 f3 f4 f5⟩
  self := fun A i s Q E st h => hself A i s Q E st.2 h
section
variable {X : Cx} {tg : Expr}
def signsV (l : List Nat) : List V := l.map fun c => .str (tx [c])
def iStr (tl : TE) : TI := fun σ H R => tl σ H fun x H1 => ∃ l, x = .str (tx l) /\ R (Itv (signsV l)) H1
theorem signAt_ok {l : List Nat} (i : Nat) (v : Value) (hi : i < (signsV l).length) (h : SignAt (tx l) i v) : ∃ x, (signsV l)[i]? = some x /\ RelV x v := by
  obtain ⟨c, u, hc, e⟩ := h
  refine ⟨.str (tx [c]), ?_, u, e⟩
  unfold signsV
  rw [List.getElem?_map]
  have : l[i]? = some c := by simpa [tx] using hc
  rw [this]; rfl
theorem pi_str {l : Expr} {tl : TE} (hl : PE X l tl) : PI X tg l (iStr tl) := by
  intro pins s σ H R I h
  refine thn (hl pins s σ H _ I h) fun v s1 ⟨x, H1, I1, r1, q1⟩ => ?_
  obtain ⟨l, e, q⟩ := q1
  subst e
  obtain ⟨t, rfl⟩ := r1
  have hn : (tx l).cps.size = (signsV l).length := by unfold signsV; simp [tx]
  have fin : ∀ (ob : Obj) (S : Nat -> Heap -> Prop) (ty : String), (∀ A : Around, A.handled = none -> Walks X.prog X.w A s1.heap.objs.size [s1.heap.objs.size] [s1.heap.objs.size] (tx l).cps.size (SignAt (tx l)) S) -> S 0 (s1.heap.push ob) ->
      (∀ i h, S i h -> ∃ o vs, h.get? s1.heap.objs.size = some o /\ o.cls = .type ty /\ o.data = .fields vs) ->
      ["enumerate", "zip", "dict_itemiterator", "dict_reverseitemiterator", "odict_iterator", "itertools.zip_longest", "itertools.pairwise"].contains ty = false ->
      (∀ (A : Around) (i : Nat) (s : Shared) (Q : Value -> Shared -> Prop) (E : Value -> Shared -> Prop), S i s.heap -> Q (.ref s1.heap.objs.size) s -> wpAny (model X.prog X.w) A (pyIter (.ref s1.heap.objs.size)) Q E s) ->
      PIE X pins σ tg R (.ref s1.heap.objs.size) { s1 with heap := s1.heap.push ob } := fun ob S ty W h0 hob hty hself => by
    rw [hn] at W
    refine ⟨s1.heap.objs.size, [s1.heap.objs.size], _, _, H1, rfl, I1.kept (t' := s1.toks) fun b o e => Heap.get?_push_of_some _ e, turn_walks W (fun i v hi hp => signAt_ok i v hi hp) hob hty hself, ⟨Nat.zero_le _, h0⟩, fun b hb => ?_, q⟩
    have e : b = s1.heap.objs.size := by simpa using hb
    subst e
    exact I1.fpOk (Nat.le_refl _) I1.fresh
  cases ha : (tx l).cps.all (· < 128)
  · exact wpAny_pyIter_wide ha (fin _ _ _ (fun A hA => Walks.strWide hA _ (tx l) t) ⟨_, Heap.get?_push_size _ rfl, rfl, rfl⟩ (fun i h st => by obtain ⟨o, a, b, c⟩ := st; exact ⟨o, _, a, b, c⟩) (by decide) fun A i s Q E st h => wpAny_pyIter_striter_wide st h)
  · exact wpAny_pyIter_ascii ha (fin _ _ _ (fun A hA => Walks.strAscii hA _ (tx l) t) ⟨_, Heap.get?_push_size _ rfl, rfl, rfl⟩ (fun i h st => by obtain ⟨o, a, b, c⟩ := st; exact ⟨o, _, a, b, c⟩) (by decide) fun A i s Q E st h => wpAny_pyIter_striter_ascii st h)
def cutN (l : List Nat) (lo hi : Option Int) : List Nat := (l.drop (HT.sIx l.length 0 lo)).take (HT.sIx l.length l.length hi - HT.sIx l.length 0 lo)
theorem cutN_length (l : List Nat) (lo hi : Option Int) : (cutN l lo hi).length <= l.length := by unfold cutN; rw [List.length_take, List.length_drop]; omega
theorem pick_range (l : List Nat) (i k : Nat) : ((List.range k).map fun (m : Nat) => i + m).filterMap (fun j => l[j]?) = (l.drop i).take k := by
  induction k generalizing i with
  | zero => simp
  | succ k ih =>
    rw [List.range_succ_eq_map, List.map_cons, List.map_map]
    have e : ((fun m => i + m) ∘ Nat.succ) = fun m => (i + 1) + m := by funext m; simp [Function.comp]; omega
    rw [e]
    by_cases h : i < l.length
    · rw [List.filterMap_cons]
      simp only [Nat.add_zero, List.getElem?_eq_getElem h]
      rw [ih (i + 1), List.drop_eq_getElem_cons h, List.take_succ_cons]
    · rw [List.filterMap_cons]
      have h' : l.length <= i := by omega
      simp only [Nat.add_zero, List.getElem?_eq_none h']
      rw [ih (i + 1), List.drop_eq_nil_of_le h', List.drop_eq_nil_of_le (by omega)]
      simp
theorem clipS (v : Int) (n d : Nat) : (if (1 : Int) > 0 then max 0 (min (if v < 0 then v + (n : Int) else v) (n : Int)) else max (-1) (min (if v < 0 then v + (n : Int) else v) ((n : Int) - 1))) = ((HT.sIx n d (some v) : Nat) : Int) := by
  rw [if_pos (by omega)]
  show _ = (((if v < 0 then (v + (n : Int)).toNat else min v.toNat n) : Nat) : Int)
  by_cases hv : v < 0
  · simp only [if_pos hv]; omega
  · simp only [if_neg hv]; omega
theorem strIdx (lo hi : Option Int) (n : Nat) : Builtin.Str.strSliceIndices lo hi 1 n = (List.range (HT.sIx n n hi - HT.sIx n 0 lo)).map fun (m : Nat) => HT.sIx n 0 lo + m := by
  have key : ∀ a b : Nat, sliceRange (a : Int) (b : Int) 1 = (List.range (b - a)).map fun (m : Nat) => a + m := fun a b => by
    unfold sliceRange
    have e : (if (1 : Int) > 0 then (if (a : Int) < (b : Int) then ((b : Int) - a + 1 - 1) / 1 else 0) else (if (a : Int) > b then ((a : Int) - b - 1 - 1) / (-1) else 0)).toNat = b - a := by
      rw [if_pos (by omega)]
      by_cases h : (a : Int) < b
      · rw [if_pos h]; omega
      · rw [if_neg h]; omega
    dsimp only
    rw [e]
    refine List.map_congr_left fun k _ => ?_
    omega
  unfold Builtin.Str.strSliceIndices
  rw [<- key]
  dsimp only
  congr 1
  · cases lo with
    | none => rfl
    | some v => exact clipS v n 0
  · cases hi with
    | none => rfl
    | some v => exact clipS v n n
theorem slice_tx (l : List Nat) (lo hi : Option Int) : Txt.slice (tx l) lo hi = tx (cutN l lo hi) := by
  unfold Txt.slice
  rw [strIdx, tx_len]
  split
  · rename_i h
    simp only [beq_self_eq_true, Bool.true_and, beq_iff_eq, List.length_map, List.length_range] at h
    unfold cutN
    have h1 := HT.sIx_le l.length l.length (Nat.le_refl _) hi
    have h2 := HT.sIx_le l.length 0 (Nat.zero_le _) lo
    by_cases hz : l.length = 0
    · have : l = [] := List.eq_nil_of_length_eq_zero hz
      subst this; simp
    · have e0 : HT.sIx l.length 0 lo = 0 := by omega
      rw [e0, List.drop_zero, List.take_of_length_le (by omega)]
  · unfold cutN tx
    have : ∀ j : Nat, (l.toArray)[j]? = l[j]? := fun j => by simp
    simp only [this]
    rw [pick_range]
def rSlS : V -> Option Int -> Option Int -> Hp -> VK -> Prop := fun x lo hi H Q => ∃ l, x = .str (tx l) /\ l.length <= sizeLine /\ Q (.str (tx (cutN l lo hi))) H
theorem part_of {v : Value} {o : Option Int} (p : IsPart v o) : ∃ q : Option (Int × Tok), v = partValue q /\ q.map (·.1) = o := by
  cases p with
  | none => exact ⟨none, rfl, rfl⟩
  | int i t => exact ⟨some (i, t), rfl, rfl⟩
theorem sl_str : SlR X rSlS := by
  intro pins s σ H x v vl vu lo hi sl Q I rx hs pl pu h
  obtain ⟨l, e, hz, q⟩ := h
  subst e
  obtain ⟨t, rfl⟩ := rx
  obtain ⟨pl', rfl, rfl⟩ := part_of pl
  obtain ⟨pu', rfl, rfl⟩ := part_of pu
  refine ⟨"str", _, F.slot_str_getitem.lookup, typeIs_str _ _ _, ?_⟩
  refine wpAny_getItem_str_slice (l := pl') (u := pu') (st := none) hs rfl (post_val_or_str ?_)
  have e := slice_tx l (pl'.map (·.1)) (pu'.map (·.1))
  unfold Txt.slice at e
  show (if ((1 : Int) == 1 && (Builtin.Str.strSliceIndices (pl'.map (·.1)) (pu'.map (·.1)) 1 (tx l).length).length == (tx l).length) = true then tx l else ⟨((Builtin.Str.strSliceIndices (pl'.map (·.1)) (pu'.map (·.1)) 1 (tx l).length).filterMap ((tx l).cps[·]?)).toArray⟩ : Str).length <= sizeLine /\
    ∀ t' k, EP X pins σ Q (.str (if ((1 : Int) == 1 && (Builtin.Str.strSliceIndices (pl'.map (·.1)) (pu'.map (·.1)) 1 (tx l).length).length == (tx l).length) = true then tx l else ⟨((Builtin.Str.strSliceIndices (pl'.map (·.1)) (pu'.map (·.1)) 1 (tx l).length).filterMap ((tx l).cps[·]?)).toArray⟩ : Str) t') { s with toks := k }
  rw [e, tx_len]
  exact ⟨Nat.le_trans (cutN_length l _ _) hz, fun t' k => ⟨.str _, H, I.tok k, ⟨t', rfl⟩, q⟩⟩
theorem in_one (c : Nat) (l : List Nat) : (!(Builtin.Str.occurrences (tx l) (tx [c]) 0 (tx l).length 1).isEmpty) = decide (c ∈ l) := StrLaws.found_one (tx l) c
def rInS (neg : Bool) : R2 := fun x y H Q => ∃ c l, x = .str (tx [c]) /\ y = .str (tx l) /\ Q (.bl (if neg then !decide (c ∈ l) else decide (c ∈ l))) H
theorem op_in_one : OpR X (compareOp .In) (rInS false) := by
  intro pins s σ H x y v u Q I rx ry h
  obtain ⟨c, l, rfl, rfl, q⟩ := h
  exact op_in_str pins s σ H _ _ v u Q I rx ry ⟨_, _, rfl, rfl, by rw [in_one]; exact q⟩
theorem op_notin_one : OpR X (compareOp .NotIn) (rInS true) := by
  intro pins s σ H x y v u Q I rx ry h
  obtain ⟨c, l, rfl, rfl, q⟩ := h
  exact op_notin_str pins s σ H _ _ v u Q I rx ry ⟨_, _, rfl, rfl, by rw [in_one]; exact q⟩
theorem op_le_one : OpR X (compareOp .LtE) (fun x y H Q => ∃ c d, x = .str (tx [c]) /\ y = .str (tx [d]) /\ Q (.bl (decide (c <= d))) H) := by
  intro pins s σ H x y v u Q I rx ry h
  obtain ⟨c, d, rfl, rfl, q⟩ := h
  obtain ⟨t, rfl⟩ := rx
  obtain ⟨t', rfl⟩ := ry
  refine PySem.P.le_str ⟨.bl _, H, I, ?_, q⟩
  show Value.bool _ = Value.bool _
  congr 1
  show (!decide ([d] < [c])) = decide (c <= d)
  by_cases hcd : c <= d
  · rw [decide_eq_true hcd, decide_eq_false]; rfl
    intro z
    cases z with
    | rel z => omega
    | cons z => cases z
  · rw [decide_eq_false hcd, decide_eq_true]; rfl
    exact .rel (by omega)
theorem strsAre_of : ∀ {ys : List (List Nat)} {its : List Value}, Vals (ys.map fun l => V.str (tx l)) its -> StrsAre its (ys.map tx)
  | [], _, r => by cases r; exact .nil
  | y :: ys, _, r => by
    cases r with
    | cons r rr =>
      obtain ⟨t, rfl⟩ := r
      exact .cons _ _ (strsAre_of rr)
theorem of_strsAre : ∀ {its : List Value} {ss : List Str}, StrsAre its ss -> Vals (ss.map fun z => V.str z) its
  | _, _, .nil => .nil
  | _, _, .cons y t r => .cons ⟨t, rfl⟩ (of_strsAre r)
def joinN (sep : List Nat) : List (List Nat) -> List Nat
  | [] => []
  | [x] => x
  | x :: y :: r => x ++ sep ++ joinN sep (y :: r)
theorem joinN_nil : ∀ ys : List (List Nat), joinN [] ys = ys.flatten
  | [] => rfl
  | [x] => by simp [joinN]
  | x :: y :: r => by rw [joinN, joinN_nil (y :: r)]; simp
theorem join_tx (sep : List Nat) : ∀ ys : List (List Nat), Txt.join (tx sep) (ys.map tx) = tx (joinN sep ys) := fun ys => by
  show Builtin.Str.glued (tx sep) (ys.map tx) = _
  rw [StrLaws.glued_eq_join]
  induction ys with
  | nil => rfl
  | cons x r ih =>
    cases r with
    | nil => rfl
    | cons y r =>
      show tx x ++ tx sep ++ Str.join (tx sep) ((y :: r).map tx) = tx (x ++ sep ++ joinN sep (y :: r))
      rw [ih, tx_app, tx_app]
def rJoin (K : PySem.W.Frag) : V -> List V -> Hp -> VK -> Prop := fun x vs H Q => ∃ (sep : List Nat) (a : Addr) (ys : List (List Nat)), x = .str (tx sep) /\ vs = [.ref a] /\ SqL K H a (ys.map fun l => V.str (tx l)) /\ (ys.map List.length).sum + ys.length * sep.length <= 16777216 /\ Q (.str (tx (joinN sep ys))) H
theorem mt_join : MtR X "str.join" (rJoin X.K) := by
  intro pins s σ H x vs v us Q I rx rv h
  obtain ⟨sep, a, ys, rfl, rfl, hS, hz, q⟩ := h
  obtain ⟨t, rfl⟩ := rx
  obtain ⟨u, rfl, ru⟩ := rv.one
  cases ru
  obtain ⟨its, r, p, _⟩ := I.list hS
  refine join_list p.isList (strsAre_of (by simpa using r)) ?_ fun t' k => ?_
  · rw [List.map_map, tx_len, List.length_map]
    have e : ((fun z : Str => z.length) ∘ tx) = List.length := by funext l; exact tx_len l
    rw [e]; exact hz
  · rw [join_tx]
    exact ⟨.str _, H, I.tok k, ⟨t', rfl⟩, q⟩
end
end L2
set_option Elab.async false
set_option linter.all false
set_option maxRecDepth 100000
set_option maxHeartbeats 4000000
namespace L2
open PySem PySem.Spec PyProof.Rows
inductive D where
  | non | bl (b : Bool) | int (i : Int) | str (l : List Nat) | tnil | tcons (d r : D)
  deriving DecidableEq
def D.tup : List D -> D
  | [] => .tnil
  | d :: r => .tcons d (D.tup r)
mutual
def Dp (K : PySem.W.Frag) (H : Hp) : D -> V -> Prop
  | .non, v => v = .non
  | .bl b, v => v = .bl b
  | .int i, v => v = .int i
  | .str l, v => v = .str (tx l)
  | .tnil, v => ∃ p, v = .ref p /\ SqT K H p []
  | .tcons d r, v => ∃ p x xs, v = .ref p /\ SqT K H p (x :: xs) /\ Dp K H d x /\ DpL K H r xs
def DpL (K : PySem.W.Frag) (H : Hp) : D -> List V -> Prop
  | .tnil, xs => xs = []
  | .tcons d r, xs => ∃ x ys, xs = x :: ys /\ Dp K H d x /\ DpL K H r ys
  | .non, _ => False
  | .bl _, _ => False
  | .int _, _ => False
  | .str _, _ => False
end
def Ext (K : PySem.W.Frag) (H H' : Hp) : Prop := ∀ p xs, SqT K H p xs -> SqT K H' p xs
mutual
theorem Dp.mono {K : PySem.W.Frag} {H H' : Hp} (e : Ext K H H') : ∀ {d : D} {v : V}, Dp K H d v -> Dp K H' d v
  | .non, _, h => by unfold Dp at h ⊢; exact h
  | .bl _, _, h => by unfold Dp at h ⊢; exact h
  | .int _, _, h => by unfold Dp at h ⊢; exact h
  | .str _, _, h => by unfold Dp at h ⊢; exact h
  | .tnil, _, h => by unfold Dp at h ⊢; obtain ⟨p, e1, e2⟩ := h; exact ⟨p, e1, e _ _ e2⟩
  | .tcons d r, _, h => by unfold Dp at h ⊢; obtain ⟨p, x, xs, e1, e2, h1, h2⟩ := h; exact ⟨p, x, xs, e1, e _ _ e2, Dp.mono e h1, DpL.mono e h2⟩
theorem DpL.mono {K : PySem.W.Frag} {H H' : Hp} (e : Ext K H H') : ∀ {d : D} {v : List V}, DpL K H d v -> DpL K H' d v
  | .non, _, h => by unfold DpL at h; exact h.elim
  | .bl _, _, h => by unfold DpL at h; exact h.elim
  | .int _, _, h => by unfold DpL at h; exact h.elim
  | .str _, _, h => by unfold DpL at h; exact h.elim
  | .tnil, _, h => by unfold DpL at h ⊢; exact h
  | .tcons d r, _, h => by unfold DpL at h ⊢; obtain ⟨x, xs, e1, h1, h2⟩ := h; exact ⟨x, xs, e1, Dp.mono e h1, DpL.mono e h2⟩
end
abbrev Dps (K : PySem.W.Frag) (H : Hp) : List D -> List V -> Prop := Paired fun d v => Dp K H d v
theorem Dps.mono {K : PySem.W.Frag} {H H' : Hp} (e : Ext K H H') : ∀ {ds : List D} {vs : List V}, Dps K H ds vs -> Dps K H' ds vs
  | _, _, .nil => .nil
  | _, _, .cons h t => .cons (h.mono e) (Dps.mono e t)
theorem DpL.of {K : PySem.W.Frag} {H : Hp} : ∀ {ds : List D} {vs : List V}, Dps K H ds vs -> DpL K H (D.tup ds) vs
  | _, _, .nil => by unfold D.tup DpL; rfl
  | _, _, .cons h t => by unfold D.tup DpL; exact ⟨_, _, rfl, h, DpL.of t⟩
theorem DpL.to {K : PySem.W.Frag} {H : Hp} : ∀ {ds : List D} {vs : List V}, DpL K H (D.tup ds) vs -> Dps K H ds vs
  | [], _, h => by unfold D.tup DpL at h; subst h; exact .nil
  | d :: ds, _, h => by unfold D.tup DpL at h; obtain ⟨x, xs, rfl, h1, h2⟩ := h; exact .cons h1 (DpL.to h2)
theorem Dp.tupI {K : PySem.W.Frag} {H : Hp} {p : Addr} {vs : List V} {ds : List D} (h : SqT K H p vs) (hd : Dps K H ds vs) : Dp K H (D.tup ds) (.ref p) := by
  cases hd with
  | nil => unfold D.tup Dp; exact ⟨p, rfl, h⟩
  | cons a t => unfold D.tup Dp; exact ⟨p, _, _, rfl, h, a, DpL.of t⟩
theorem Dp.tupE {K : PySem.W.Frag} {H : Hp} {v : V} {ds : List D} (h : Dp K H (D.tup ds) v) : ∃ p vs, v = .ref p /\ SqT K H p vs /\ Dps K H ds vs := by
  cases ds with
  | nil => unfold D.tup Dp at h; obtain ⟨p, e, q⟩ := h; exact ⟨p, [], e, q, .nil⟩
  | cons d r => unfold D.tup Dp at h; obtain ⟨p, x, xs, e, q, h1, h2⟩ := h; exact ⟨p, _, e, q, .cons h1 (DpL.to h2)⟩
theorem SqT.same {K : PySem.W.Frag} {H H' : Hp} (e : Same H H') : Ext K H H' := fun p xs h => by
  rcases h with (h | ⟨o, h⟩) | h
  · exact .inl (.inl (e _ _ h))
  · exact .inl (.inr ⟨o, e _ _ h⟩)
  · exact .inr h
theorem same_new {H : Hp} {p : Addr} (h : H p = none) (o : HO) : Same H (upd H p o) := fun b u q => by rw [upd_ne (ne_of_none q h)]; exact q
def But (l : Addr) (H H' : Hp) : Prop := ∀ b o, b ≠ l -> H b = some o -> H' b = some o
theorem But.refl {l : Addr} (H : Hp) : But l H H := fun _ _ _ h => h
theorem But.trans {l : Addr} {H H1 H2 : Hp} (a : But l H H1) (b : But l H1 H2) : But l H H2 := fun c o h q => b c o h (a c o h q)
theorem Same.but {l : Addr} {H H' : Hp} (a : Same H H') : But l H H' := fun b o _ q => a b o q
theorem but_upd {l : Addr} {H : Hp} {o : HO} : But l H (upd H l o) := fun b u h q => by rw [upd_ne h]; exact q
theorem SqT.but {K : PySem.W.Frag} {l : Addr} {xs : List V} {H H' : Hp} (e : But l H H') (hl : H l = some (.lst xs)) : Ext K H H' := fun p ys h => by
  have hne : ∀ {o : HO}, H p = some o -> (∀ zs, o ≠ .lst zs) -> p ≠ l := fun {o} q hn z => by subst z; rw [hl] at q; cases q; exact hn _ rfl
  rcases h with (h | ⟨o, h⟩) | h
  · exact .inl (.inl (e _ _ (hne h (fun _ z => by cases z)) h))
  · exact .inl (.inr ⟨o, e _ _ (hne h (fun _ z => by cases z)) h⟩)
  · exact .inr h
theorem Ext.refl {K : PySem.W.Frag} {H : Hp} : Ext K H H := fun _ _ h => h
theorem Ext.trans {K : PySem.W.Frag} {H H1 H2 : Hp} (a : Ext K H H1) (b : Ext K H1 H2) : Ext K H H2 := fun p xs h => b p xs (a p xs h)
theorem SqT.new {K : PySem.W.Frag} {H : Hp} {p : Addr} {xs : List V} : SqT K (upd H p (.tup xs)) p xs := SqT.of upd_same
theorem SqL.but {K : PySem.W.Frag} {l a : Addr} {xs : List V} {H H' : Hp} (e : But l H H') (hne : a ≠ l) (h : SqL K H a xs) : SqL K H' a xs := by
  rcases h with (h | ⟨o, h⟩) | h
  · exact .inl (.inl (e _ _ hne h))
  · exact .inl (.inr ⟨o, e _ _ hne h⟩)
  · exact .inr h
structure Has (P : Program) (w : World) (K : PySem.W.Frag) (mg : Str -> Option Value) (base : Heap) (k : Nat) (x : Str) (ps : List Str) (sp : Sp) : Prop where
  ex : ∃ (f : Addr) (fd : FuncData), mg x = some (.ref f) /\ PySem.W.keepIn K (.ref f) = true /\ Binds K fd ps [] /\ FnOk P w K mg base CX0 k f fd ps sp
theorem Has.mono {P : Program} {w : World} {K : PySem.W.Frag} {mg : Str -> Option Value} {base : Heap} {j k : Nat} {x : Str} {ps : List Str} {sp : Sp} (h : Has P w K mg base j x ps sp) (hj : j <= k) : Has P w K mg base k x ps sp := by
  obtain ⟨f, fd, a, b, c, d⟩ := h.ex
  exact ⟨f, fd, a, b, c, d.mono hj⟩
end L2
namespace L2
open PySem PySem.Spec PyProof.Rows
theorem pe_gc {X : Cx} {x : Str} {v : V} {pos : Pos} (h : ∃ u, X.mg x = some u /\ RelV v u) (hg : Gl X x := by rfl) (hd : (x == ("__debug__" : Str)) = false := by decide) : PE X (.Name x pos) (tC v) := by
  obtain ⟨u, a, b⟩ := h
  exact pe_glob hg a b hd
end L2
namespace L2
open PySem PySem.Spec PyProof.Rows
section
variable {X : Cx} {o e : Expr} {es : List Expr} {to : TE} {t : TA} {name : Str} {apos cpos : Pos} {id : String} {r : V -> List V -> Hp -> VK -> Prop}
def tML (r : V -> List V -> Hp -> VK -> Prop) (to : TE) (t : TA) : TE := fun σ H Q => to σ H fun x H1 => (∃ l ys, x = .ref l /\ H1 l = some (.lst ys)) /\ t σ H1 fun xs H2 => r x xs H2 Q
def tMS (r : V -> List V -> Hp -> VK -> Prop) (to : TE) (t : TA) : TE := fun σ H Q => to σ H fun x H1 => (∃ l, x = .str (tx l)) /\ t σ H1 fun xs H2 => r x xs H2 Q
theorem tyV_list {K : PySem.W.Frag} {x : V} {H : Hp} (h : ∃ l ys, x = .ref l /\ H l = some (.lst ys)) : tyV K "list" x H := by
  obtain ⟨l, ys, rfl, h⟩ := h
  exact .inl ⟨rfl, _, .of h⟩
theorem tyV_str {K : PySem.W.Frag} {x : V} {H : Hp} (h : ∃ l, x = .str (tx l)) : tyV K "str" x H := by
  obtain ⟨l, rfl⟩ := h
  exact rfl
theorem pe_bmX {T : String} {ty : V -> Hp -> Prop} (hty' : ∀ x H, ty x H -> tyV X.K T x H) (pa : PlainAttrs T) (slot : Slot T name id) (hty : typeOf (.builtin id) = pure (.type "method_descriptor")) (hm : MtR X id r) (ho : PE X o to) (ha : PA X (e :: es) t)
    (hbase : attributeBase o name X.env (eval o X.env) = eval o X.env)
    (hfew : ((backTo cpos (starEach (e :: es) X.env)).all (fun x => !x.1) && (backToKw cpos (keywordEach [] X.env)).all (fun x => x.1.isSome)
      && decide ((e :: es).length + ([] : List Keyword).length + (if ([] : List Keyword).isEmpty then 0 else 1) < 30)) = true)
    (hline : (apos.endLine == cpos.line) = true) (hs : starEach (e :: es) X.env = (false, eval e X.env) :: starEach es X.env) (hplain : (backTo cpos (starEach es X.env)).any (·.1) = false) :
    PE X (.Call (.Attribute o name apos) (e :: es) [] cpos) (fun σ H Q => to σ H fun x H1 => ty x H1 /\ t σ H1 fun xs H2 => r x xs H2 Q) := by
  intro pins s σ H Q I h
  refine wpAny_Call_method_late hbase hfew hline rfl (thn (ho pins s σ H _ I h) fun v s1 ⟨x, H1, I1, r1, ty, q1⟩ => ?_)
  obtain ⟨h1, h2⟩ := tyV_is I1 r1 (hty' _ _ ty)
  refine ⟨T, id, pa, slot, hty, h1, h2, ?_⟩
  have hA := ha cpos pins s1 σ H1 _ I1 q1
  rw [hs] at hA ⊢
  refine Calls.callWith_builtin (by show (false || (backTo cpos (starEach es X.env)).any (·.1)) = false; rw [hplain] <;> rfl) (Calls.evalArgs_plain ?_)
  exact thn hA fun us s2 ⟨vs, H2, I2, r2, q2⟩ => hm pins s2 σ H2 x vs v us Q I2 r1 r2 q2
theorem pe_ml (slot : Slot "list" name id) (hty : typeOf (.builtin id) = pure (.type "method_descriptor")) (hm : MtR X id r) (ho : PE X o to) (ha : PA X (e :: es) t)
    (hbase : attributeBase o name X.env (eval o X.env) = eval o X.env := by rfl)
    (hfew : ((backTo cpos (starEach (e :: es) X.env)).all (fun x => !x.1) && (backToKw cpos (keywordEach [] X.env)).all (fun x => x.1.isSome)
      && decide ((e :: es).length + ([] : List Keyword).length + (if ([] : List Keyword).isEmpty then 0 else 1) < 30)) = true := by rfl)
    (hline : (apos.endLine == cpos.line) = true := by rfl) (hs : starEach (e :: es) X.env = (false, eval e X.env) :: starEach es X.env := by rfl) (hplain : (backTo cpos (starEach es X.env)).any (·.1) = false := by rfl) :
    PE X (.Call (.Attribute o name apos) (e :: es) [] cpos) (tML r to t) := pe_bmX (ty := fun x H1 => ∃ l ys, x = .ref l /\ H1 l = some (.lst ys)) (fun _ _ h => tyV_list h) F.plainAttrs_list slot hty hm ho ha hbase hfew hline hs hplain
theorem pe_ms (slot : Slot "str" name id) (hty : typeOf (.builtin id) = pure (.type "method_descriptor")) (hm : MtR X id r) (ho : PE X o to) (ha : PA X (e :: es) t)
    (hbase : attributeBase o name X.env (eval o X.env) = eval o X.env := by rfl)
    (hfew : ((backTo cpos (starEach (e :: es) X.env)).all (fun x => !x.1) && (backToKw cpos (keywordEach [] X.env)).all (fun x => x.1.isSome)
      && decide ((e :: es).length + ([] : List Keyword).length + (if ([] : List Keyword).isEmpty then 0 else 1) < 30)) = true := by rfl)
    (hline : (apos.endLine == cpos.line) = true := by rfl) (hs : starEach (e :: es) X.env = (false, eval e X.env) :: starEach es X.env := by rfl) (hplain : (backTo cpos (starEach es X.env)).any (·.1) = false := by rfl) :
    PE X (.Call (.Attribute o name apos) (e :: es) [] cpos) (tMS r to t) := pe_bmX (ty := fun x H1 => ∃ l, x = .str (tx l)) (fun _ _ h => tyV_str h) F.plainAttrs_str slot hty hm ho ha hbase hfew hline hs hplain
end
end L2
namespace L2
open PySem PySem.Spec PyProof.Rows
end L2
namespace L2
open PySem PySem.Spec PyProof.Rows
section
variable {X : Cx} {e : Expr} {es : List Expr} {te : TE} {t : TA} {pos : Pos}
def tTupF (t : TA) : TE := fun σ H Q => t σ H fun xs H1 => xs.length <= sizeLine /\ ∀ p H2, H1 p = none -> H2 = upd H1 p (.tup xs) -> Q (.ref p) H2
def tLstF (t : TA) : TE := fun σ H Q => t σ H fun xs H1 => xs.length <= sizeLine /\ ∀ p H2, H1 p = none -> H2 = upd H1 p (.lst xs) -> Q (.ref p) H2
theorem pe_tupF {x1} (h : PA X es t) : PE X (.Tuple es x1 pos) (tTupF t) := by
  intro pins s σ H Q I hq
  refine wpAny_Tuple_spliced (thn (h pos pins s σ H _ I hq) fun us s1 ⟨xs, H1, I1, r, z, q⟩ => ⟨by rw [<- r.length]; exact z, ?_⟩)
  have hf : H1 s1.heap.objs.size = none := I1.hok.fresh (Nat.le_refl _)
  refine ⟨.ref s1.heap.objs.size, upd H1 s1.heap.objs.size (.tup xs), I1.laid (t' := s1.toks) (fun b u e => Heap.get?_push_of_some _ e) (Nat.le_refl _) ?_, rfl, q _ _ hf rfl⟩
  exact ⟨z, us, r, ⟨_, Heap.get?_push_size _ rfl, rfl, _, rfl⟩⟩
theorem pe_lstF (h : PA X es t) : PE X (.List es pos) (tLstF t) := by
  intro pins s σ H Q I hq
  refine wpAny_List_spliced (thn (h pos pins s σ H _ I hq) fun us s1 ⟨xs, H1, I1, r, z, q⟩ => ⟨by rw [<- r.length]; exact z, ?_⟩)
  have hf : H1 s1.heap.objs.size = none := I1.hok.fresh (Nat.le_refl _)
  refine ⟨.ref s1.heap.objs.size, upd H1 s1.heap.objs.size (.lst xs), I1.laid (t' := s1.toks) (fun b u e => Heap.get?_push_of_some _ e) (Nat.le_refl _) ?_, rfl, q _ _ hf rfl⟩
  exact ⟨z, us, 0, r, Heap.get?_push_size _ rfl⟩
theorem MtR.imp {id : String} {r r' : V -> List V -> Hp -> VK -> Prop} (h : MtR X id r) (i : ∀ x xs H Q, r' x xs H Q -> r x xs H Q) : MtR X id r' := fun pins s σ H x xs v us Q I rx rv q => h pins s σ H x xs v us Q I rx rv (i _ _ _ _ q)
theorem CallR.imp {f : Value} {r r' : List V -> Hp -> VK -> Prop} (h : CallR X f r) (i : ∀ xs H Q, r' xs H Q -> r xs H Q) : CallR X f r' := fun pins s σ H xs us Q I rv q => h pins s σ H xs us Q I rv (i _ _ _ q)
theorem OpR.imp {f : Value -> Value -> Sem Value} {r r' : R2} (h : OpR X f r) (i : ∀ x y H Q, r' x y H Q -> r x y H Q) : OpR X f r' := fun pins s σ H x y v u Q I rx ry q => h pins s σ H x y v u Q I rx ry (i _ _ _ _ q)
theorem SlR.imp {r r' : V -> Option Int -> Option Int -> Hp -> VK -> Prop} (h : SlR X r) (i : ∀ x lo hi H Q, r' x lo hi H Q -> r x lo hi H Q) : SlR X r' := fun pins s σ H x v vl vu lo hi sl Q I rx hs pl pu q => h pins s σ H x v vl vu lo hi sl Q I rx hs pl pu (i _ _ _ _ _ q)
def rAppendF : V -> List V -> Hp -> VK -> Prop := fun x vs H Q => ∃ l xs y, x = .ref l /\ vs = [y] /\ H l = some (.lst xs) /\ xs.length < sizeLine /\ ∀ H2, H2 = upd H l (.lst (xs ++ [y])) -> Q .non H2
theorem mt_appendF : MtR X "list.append" rAppendF := MtR.imp (r := rAppend) mt_append fun _ _ _ _ ⟨l, xs, y, a, b, c, d, q⟩ => ⟨l, xs, y, a, b, c, d, q _ rfl⟩
def rSetLF : V -> V -> V -> Hp -> (Hp -> Prop) -> Prop := fun o i v H Q => ∃ p xs k j, o = .ref p /\ i = .int k /\ H p = some (.lst xs) /\ ixN xs.length k = some j /\ ∀ H2, H2 = upd H p (.lst (xs.set j v)) -> Q H2
theorem set_listF : PSet X rSetLF := fun pins s σ H o i v ov iv u Q I r1 r2 r3 q => by
  obtain ⟨p, xs, k, j, a, b, c, d, q⟩ := q
  exact set_list pins s σ H o i v ov iv u Q I r1 r2 r3 ⟨p, xs, k, j, a, b, c, d, q _ rfl⟩
def rTupleOf (K : PySem.W.Frag) : List V -> Hp -> VK -> Prop := fun xs H Q => ∃ p ys, xs = [.ref p] /\ SqL K H p ys /\ ∀ l H2, H l = none -> H2 = upd H l (.tup ys) -> Q (.ref l) H2
theorem call_tupleL : CallR X (.type "tuple") (rTupleOf X.K) := CallR.imp call_tuple_of fun _ _ _ ⟨p, ys, a, b, q⟩ => ⟨p, ys, a, .inl ⟨b, fun l hl => q l _ hl rfl⟩⟩
def rCatF : R2 := fun x y H Q => ∃ l b xs zs, x = .ref l /\ y = .ref b /\ H l = some (.lst xs) /\ H b = some (.lst zs) /\ xs.length + zs.length <= sizeLine /\ ∀ p H2, H p = none -> H2 = upd H p (.lst (xs ++ zs)) -> Q (.ref p) H2
theorem op_catF : OpR X (binaryOp .Add) rCatF := OpR.imp op_cat fun _ _ _ _ ⟨l, b, xs, zs, h1, h2, h3, h4, h5, q⟩ => ⟨l, b, xs, zs, h1, h2, h3, h4, h5, fun p hp => q p _ hp rfl⟩
end
end L2
namespace L2
open PySem PySem.Spec PyProof.Rows
end L2
namespace L2
open PySem PySem.Spec PyProof.Rows
def knownT (T : String) : Prop := T = "tuple" \/ T = "bool" \/ T = "int" \/ T = "str"
theorem DpL.ex {K : PySem.W.Frag} {H : Hp} : ∀ {d : D} {xs : List V}, DpL K H d xs -> ∃ ds, d = D.tup ds /\ Dps K H ds xs
  | .tnil, xs, h => by unfold DpL at h; subst h; exact ⟨[], rfl, .nil⟩
  | .tcons d r, xs, h => by
    unfold DpL at h
    obtain ⟨x, ys, rfl, h1, h2⟩ := h
    obtain ⟨ds, rfl, hd⟩ := DpL.ex h2
    exact ⟨d :: ds, rfl, .cons h1 hd⟩
  | .non, _, h => by unfold DpL at h; exact h.elim
  | .bl _, _, h => by unfold DpL at h; exact h.elim
  | .int _, _, h => by unfold DpL at h; exact h.elim
  | .str _, _, h => by unfold DpL at h; exact h.elim
def D.dep : D -> Nat
  | .tcons d r => max (d.dep + 1) r.dep
  | _ => 1
theorem Dps.get {K : PySem.W.Frag} {H : Hp} : ∀ {ds : List D} {vs : List V} {i : Nat} {d : D}, Dps K H ds vs -> ds[i]? = some d -> ∃ v, vs[i]? = some v /\ Dp K H d v
  | _, _, _, _, .nil, e => by simp at e
  | _, _, 0, _, .cons r _, e => by simp at e; subst e; exact ⟨_, rfl, r⟩
  | _, _, i + 1, d, .cons _ t, e => by
    obtain ⟨u, h1, h2⟩ := Dps.get (i := i) (d := d) t (by simpa using e)
    exact ⟨u, by simpa using h1, h2⟩
end L2
namespace L2
def D.size : D -> Nat
  | .tcons d r => d.size + r.size + 1
  | _ => 1
end L2
namespace L2
open PySem PySem.Spec PyProof.Rows
inductive CS : List Expr -> List Str -> Prop where
  | nil : CS [] []
  | cons {x : Str} {j : Nat} {p : Pos} {r : List Expr} {zs : List Str} : CS r zs -> CS (.Constant (.str x) j p :: r) (x :: zs)
def tStrs (zs : List Str) : TA := fun _ H Q => Q (zs.map V.str) H
theorem pa_strs {X : Cx} {es : List Expr} {zs : List Str} (h : CS es zs) : PA X es (tStrs zs) := by
  induction h with
  | nil => exact pa_nil
  | @cons x j p r zs _ ih =>
    intro pos pins s σ H Q I hq
    exact pa_cons (X := X) (pe_str (X := X) (x := x) (j := j) (pos := p)) ih (by rfl) pos pins s σ H Q I hq
end L2
set_option Elab.async false
set_option linter.all false
set_option maxRecDepth 100000
set_option maxHeartbeats 4000000
namespace L2
open PySem PySem.Spec PyProof.Rows
structure QE (X : Cx) (e : Expr) (t : TE) : Prop where
  h : PE X e t
structure QA (X : Cx) (es : List Expr) (t : TA) : Prop where
  h : PA X es t
structure QS (X : Cx) (s : Stmt) (t : TS) : Prop where
  h : PS X s t
structure QG (X : Cx) (e : Expr) (t : TG) : Prop where
  h : PG X e t
structure QI (X : Cx) (tg it : Expr) (t : TI) : Prop where
  h : PI X tg it t
structure QTs (X : Cx) (es : List Expr) (t : TT) : Prop where
  h : PTs X es t
structure ROp (X : Cx) (f : Value -> Value -> Sem Value) (r : R2) : Prop where
  h : OpR X f r
structure RCall (X : Cx) (f : Value) (r : List V -> Hp -> VK -> Prop) : Prop where
  h : CallR X f r
structure RMt (X : Cx) (id : String) (r : V -> List V -> Hp -> VK -> Prop) : Prop where
  h : MtR X id r
section
variable {X : Cx} {a b c e o : Expr} {es : List Expr} {ta tb tc te to : TE} {t u : TA} {pos p p2 apos cpos : Pos} {x name : Str} {j : Nat} {tA tB' : TT} {rest : List Expr}
variable {st : Stmt} {sr : List Stmt} {ts us : TS} {g : TG}
variable {tg : Expr}
end
section
variable {X : Cx} {tg iter c : Expr} {body : List Stmt} {wi : TI} {g : TG} {tb : TS} {pos : Pos} {tA : TT}
end
end L2
namespace L2
open PySem PySem.Spec PyProof.Rows
end L2
namespace L2
open PySem PySem.Spec PyProof.Rows
end L2
set_option Elab.async false
set_option linter.all false
set_option maxRecDepth 100000
set_option maxHeartbeats 4000000
namespace L2
open PySem PySem.Spec PyProof.Rows
def clFrom (env : Env) : List (Str × NameKind) -> List (Str × Addr) -> List (Str × Addr)
  | [], cs => cs
  | (n, k) :: r, cs => clFrom env r (if k == .free then (n, (env.cells.lookup n).getD 0) :: cs else cs)
theorem clFor {scope : Scope} {env : Env} (h : ∀ x ∈ scope.names, x.2 = .free -> ∃ c, env.cells.lookup x.1 = some c) : closureFor scope env = pure (clFrom env scope.names []) := by
  unfold closureFor
  have key : ∀ (ns : List (Str × NameKind)) (cs : List (Str × Addr)), (∀ x ∈ ns, x.2 = .free -> ∃ c, env.cells.lookup x.1 = some c) ->
      (forIn ns cs fun (x : Str × NameKind) (r : List (Str × Addr)) => if (x.2 == NameKind.free) = true then (do let a <- cellOf env x.1; pure (ForInStep.yield ((x.1, a) :: r))) else (pure (ForInStep.yield r) : Sem _)) = pure (clFrom env ns cs) := by
    intro ns
    induction ns with
    | nil => intro cs _; rfl
    | cons y r ih =>
      intro cs hc
      obtain ⟨n, k⟩ := y
      rw [List.forIn_cons]
      have ihr := fun cs => ih cs fun x hx => hc x (List.mem_cons_of_mem _ hx)
      by_cases hk : (k == NameKind.free) = true
      · obtain ⟨c, e⟩ := hc (n, k) List.mem_cons_self (eq_of_beq hk)
        have e2 : cellOf env n = pure c := by unfold cellOf; rw [e]
        show ((if (k == NameKind.free) = true then _ else _) >>= _) = pure (clFrom env r (if (k == NameKind.free) = true then _ else _))
        rw [if_pos hk, if_pos hk, e2]
        simp only [pure_bind]
        have e3 : (env.cells.lookup n).getD 0 = c := by rw [show env.cells.lookup n = some c from e]; rfl
        rw [e3]
        exact ihr _
      · show ((if (k == NameKind.free) = true then _ else _) >>= _) = pure (clFrom env r (if (k == NameKind.free) = true then _ else _))
        rw [if_neg hk, if_neg hk]
        simp only [pure_bind]
        exact ihr _
  have := key scope.names [] h
  dsimp only
  rw [this]; simp only [pure_bind]
theorem clFrom_ok {env : Env} : ∀ (ns : List (Str × NameKind)) (cs : List (Str × Addr)), (∀ x ∈ ns, x.2 = .free -> ∃ c, env.cells.lookup x.1 = some c) -> (∀ y ∈ cs, env.cells.lookup y.1 = some y.2) -> ∀ y ∈ clFrom env ns cs, env.cells.lookup y.1 = some y.2
  | [], cs, _, h => h
  | (n, k) :: r, cs, hf, h => by
    refine clFrom_ok r _ (fun x hx => hf x (List.mem_cons_of_mem _ hx)) ?_
    by_cases hk : (k == NameKind.free) = true
    · rw [if_pos hk]
      intro y hy
      rcases List.mem_cons.mp hy with rfl | hy
      · obtain ⟨c, e⟩ := hf (n, k) List.mem_cons_self (eq_of_beq hk)
        show env.cells.lookup n = some ((env.cells.lookup n).getD 0)
        rw [show env.cells.lookup n = some c from e]; rfl
      · exact h y hy
    · rw [if_neg hk]; exact h
theorem clFrom_sub {env : Env} : ∀ (ns : List (Str × NameKind)) (cs : List (Str × Addr)) (y : Str × Addr), y ∈ cs -> y ∈ clFrom env ns cs
  | [], _, _, h => h
  | (n, k) :: r, cs, y, h => by
    refine clFrom_sub r _ y ?_
    split
    · exact List.mem_cons_of_mem _ h
    · exact h
theorem clFrom_mem {env : Env} : ∀ (ns : List (Str × NameKind)) (cs : List (Str × Addr)) (x : Str), (x, NameKind.free) ∈ ns -> ∃ c, (x, c) ∈ clFrom env ns cs
  | [], _, _, h => by simp at h
  | (n, k) :: r, cs, x, h => by
    rcases List.mem_cons.mp h with e | h
    · obtain ⟨e1, e2⟩ := Prod.mk.inj e
      subst e1; subst e2
      exact ⟨_, clFrom_sub r _ (x, _) (by rw [if_pos (by rfl : (NameKind.free == NameKind.free) = true)]; exact List.mem_cons_self)⟩
    · exact clFrom_mem r _ x h
theorem lookup_mem' {β : Type} : ∀ {l : List (Str × β)} {x : Str} {b : β}, l.lookup x = some b -> (x, b) ∈ l
  | [], _, _, h => by simp at h
  | (y, c) :: r, x, b, h => by
    rw [List.lookup_cons] at h
    cases hx : x == y with
    | true => rw [hx] at h; have := eq_of_beq hx; subst this; cases h; exact List.mem_cons_self
    | false => rw [hx] at h; exact List.mem_cons_of_mem _ (lookup_mem' h)
theorem mem_lookup {β : Type} : ∀ {l : List (Str × β)} {x : Str} {b : β}, (x, b) ∈ l -> ∃ c, l.lookup x = some c
  | (y, c) :: r, x, b, h => by
    rw [List.lookup_cons]
    cases hx : x == y with
    | true => exact ⟨c, rfl⟩
    | false =>
      rcases List.mem_cons.mp h with e | h
      · cases e; simp at hx
      · exact mem_lookup h
theorem lookup_free {env : Env} {g : Str × NameKind -> Bool} : ∀ {names : List (Str × NameKind)} {x : Str}, names.lookup x = some .free ->
    (names.map fun y => if g y then (y.1, NameKind.cell) else y).lookup x = some .cell \/ (names.map fun y => if g y then (y.1, NameKind.cell) else y).lookup x = some .free
  | [], _, h => by simp at h
  | (n, k) :: r, x, h => by
    rw [List.lookup_cons] at h
    rw [List.map_cons]
    have e1 : ∀ y : Str × NameKind, (if g y then (y.1, NameKind.cell) else y).1 = y.1 := fun y => by split <;> rfl
    have e2 : ∀ (y : Str × NameKind) (l : List (Str × NameKind)), (y :: l).lookup x = if (x == y.1) = true then some y.2 else l.lookup x := fun y l => by
      obtain ⟨a, b⟩ := y
      rw [List.lookup_cons]
      cases x == a <;> rfl
    rw [e2, e1]
    cases hx : x == n with
    | true =>
      rw [hx] at h
      cases h
      rw [if_pos rfl]
      by_cases hg : g (n, .free) = true
      · rw [if_pos hg]; exact .inl rfl
      · rw [if_neg hg]; exact .inr rfl
    | false =>
      rw [hx] at h
      rw [if_neg (by exact Bool.false_ne_true)]
      exact lookup_free (env := env) h
def capB (dn : List (Str × NameKind)) (sn : List (Str × NameKind)) (nm : List Str) (cap : List (Option Nat)) (N : List Str) : Bool :=
  (sn.all fun x => !(x.2 == .local) || sn.lookup x.1 == some .local) && (sn.all fun y => !(y.2 == .cell)) && (sn.all fun x => !(x.2 == .free) || dn.lookup x.1 == some .cell) && (cap.length == nm.length) &&
  ((List.range cap.length).all fun i => match cap[i]? with
    | some (some j) => (match nm[i]?, N[j]? with
      | some x, some y => x == y && dn.lookup x == some .cell && sn.lookup x == some .free
      | _, _ => false)
    | _ => true)
theorem q_comp {X : Cx} {elt tg iter : Expr} {ifs : List Expr} {scope : Scope} {pos : Pos} {nm : List Str} {cap : List (Option Nat)} {wi : TI} {g : TG} {tc : TT} {te : TE} {m : Nat} (hcalm : X.calm = true)
    (hcells : X.env.cells = cellsFrom m X.env.scope.names []) (hkind : scope.kind = .function) (hB : capB X.env.scope.names scope.names nm cap X.N = true)
    (hi : QI X tg iter wi) (hg : ∀ cl C s0 H0 fp, QG (cxComp X nm scope cl C s0 H0 fp) tg g) (ht : ∀ cl C s0 H0 fp, QTs (cxComp X nm scope cl C s0 H0 fp) ifs tc)
    (he : ∀ cl C s0 H0 fp, QE (cxComp X nm scope cl C s0 H0 fp) elt te) (hs : ∀ x, foldedSetIterable iter X.env x = pure x := by intro _; rfl) :
    QE X (.ListComp elt [⟨tg, iter, ifs, 0⟩] scope pos) (tComp cap wi g tc te) := by
  simp only [capB, Bool.and_eq_true, List.all_eq_true, Bool.or_eq_true, Bool.not_eq_true', beq_iff_eq, beq_eq_false_iff_ne] at hB
  obtain ⟨⟨⟨⟨b1, b2⟩, b3⟩, b4⟩, b5⟩ := hB
  have has : ∀ x ∈ scope.names, x.2 = .free -> ∃ c, X.env.cells.lookup x.1 = some c := fun x hx hk => by
    rw [hcells]
    rcases b3 x hx with z | z
    · exact absurd hk z
    · exact cell_has z
  have hcl : ∀ x c, (clFrom X.env scope.names []).lookup x = some c -> X.env.cells.lookup x = some c := fun x c h => clFrom_ok scope.names [] has (by simp) (x, c) (lookup_mem' h)
  have hin : ∀ x, (x, NameKind.free) ∈ scope.names -> ∃ c, (clFrom X.env scope.names []).lookup x = some c := fun x h => let ⟨_, q⟩ := clFrom_mem (env := X.env) scope.names [] x h; mem_lookup q
  have hmap : (relabel scope X.env).names = scope.names.map fun y => if (y.2 == .free && X.env.scope.kind == .function && X.env.kindOf y.1 == some .cell) then (y.1, NameKind.cell) else y := by
    show scope.names.map _ = _
    refine List.map_congr_left fun y _ => ?_
    obtain ⟨a, b⟩ := y
    rfl
  have fr : ∀ x, ((relabel scope X.env).names.lookup x = some .cell \/ (relabel scope X.env).names.lookup x = some .free) -> (x, NameKind.free) ∈ scope.names := fun x h => by
    have h' : ∃ k, (x, k) ∈ (relabel scope X.env).names /\ (k = .cell \/ k = .free) := by
      rcases h with h | h
      · exact ⟨_, lookup_mem' h, .inl rfl⟩
      · exact ⟨_, lookup_mem' h, .inr rfl⟩
    obtain ⟨k, hm, hk⟩ := h'
    rw [hmap] at hm
    obtain ⟨y, hy, e⟩ := List.mem_map.mp hm
    obtain ⟨a, b⟩ := y
    by_cases hb : b = .free
    · subst hb
      have : a = x := by split at e <;> (cases e; rfl)
      subst this; exact hy
    · rw [if_neg (by simp [hb])] at e
      cases e
      rcases hk with rfl | rfl
      · exact absurd rfl (b2 _ hy)
      · exact absurd rfl hb
  refine ⟨pe_comp (cl := clFrom X.env scope.names []) (cap := cap) (nm := nm) hcalm (clFor has) hcl hkind (fun x hx hk => (b1 x hx).resolve_left fun z => z hk) (fun y hy => b2 y hy) (fun x hx => hin x (fr x hx)) (fun i j e => ?_) b4 hi.h (fun C s0 H0 fp => (hg _ C s0 H0 fp).h) (fun C s0 H0 fp => (ht _ C s0 H0 fp).h) (fun C s0 H0 fp => (he _ C s0 H0 fp).h) hs⟩
  have hi' : i < cap.length := (List.getElem?_eq_some_iff.mp e).1
  have q := b5 i (List.mem_range.mpr hi')
  rw [e] at q
  dsimp only at q
  cases hx : nm[i]? with
  | none => rw [hx] at q; simp at q
  | some x =>
    cases hy : X.N[j]? with
    | none => rw [hx, hy] at q; simp at q
    | some y =>
      rw [hx, hy] at q
      simp only [Bool.and_eq_true, beq_iff_eq] at q
      obtain ⟨⟨rfl, q1⟩, q2⟩ := q
      refine ⟨x, rfl, rfl, .inr (.inl q1), (by rw [q1]; decide), ?_, ?_⟩
      · obtain ⟨c, hc⟩ := hin x (lookup_mem' q2)
        rw [hc, hcl _ _ hc]
      · rw [hmap]; exact lookup_free (env := X.env) q2
end L2
namespace L2
open PySem PySem.Spec PyProof.Rows
def rSorted (K : PySem.W.Frag) : List V -> Hp -> VK -> Prop := fun xs H Q => ∃ (p : Addr) (ys : List (List Nat)), xs = [.ref p] /\ SqL K H p (ys.map fun l => V.str (tx l)) /\ ys.length < 64 /\
  ∀ zs : List (List Nat), zs.Perm ys -> sortedS (zs.map tx) = true -> ∀ l H2, H l = none -> H2 = upd H l (.lst (zs.map fun l => V.str (tx l))) -> Q (.ref l) H2
theorem tx_cpsL (z : Str) : tx z.cps.toList = z := by cases z; rfl
theorem c_sorted_strs {X : Cx} : RCall X (.builtin "sorted") (rSorted X.K) := ⟨by
  intro pins s σ H xs us Q I r h
  obtain ⟨p, ys, rfl, hS, h64, q⟩ := h
  obtain ⟨u, rfl, ru⟩ := vals1 r
  cases ru
  obtain ⟨its, rv, pl, hz⟩ := I.list hS
  have hl := rv.length
  rw [List.length_map] at hl
  refine sorted_strs (ss := ys.map tx) pl.isList (strsAre_of (by simpa using rv)) (by omega) fun out ss' h1 h2 h3 => ?_
  obtain ⟨ep, hat⟩ := sortedAll_at s.heap its out
  have hfr : H (s.heap.objs.size + 1) = none := I.hok.fresh (Nat.le_succ _)
  have hmap : (ss'.map fun z => z.cps.toList).map tx = ss' := by
    rw [List.map_map]
    have : (tx ∘ fun z : Str => z.cps.toList) = id := funext fun z => tx_cpsL z
    rw [this, List.map_id]
  have hperm : (ss'.map fun z => z.cps.toList).Perm ys := by
    have e := h2.map fun z : Str => z.cps.toList
    rw [List.map_map] at e
    have : ((fun z : Str => z.cps.toList) ∘ tx) = id := funext fun l => by simp [tx]
    rw [this, List.map_id] at e
    exact e
  have hvals : Vals ((ss'.map fun z => z.cps.toList).map fun l => V.str (tx l)) out.toList := by
    have e := of_strsAre h1
    rw [<- hmap, List.map_map] at e
    exact e
  refine ⟨.ref (s.heap.objs.size + 1), _, I.laid (t' := s.toks) (fun b o e => sortedAll_old e) (Nat.le_succ _) ?_, rfl, q _ hperm (by rw [hmap]; exact h3) _ _ hfr rfl⟩
  refine ⟨?_, out.toList, ep, hvals, hat⟩
  rw [List.length_map, hperm.length_eq]
  exact Nat.le_trans (Nat.le_of_lt h64) (by decide)⟩
section
variable {prog : Program} {w : World} {A : Around} {E : Value -> Shared -> Prop} {s : Shared}
end
end L2
namespace L2
open PySem PySem.Spec PyProof.Rows
open AutoSeq1 (wpAny_loadPart')
end L2
namespace L2
open PySem PySem.Spec PyProof.Rows
open AutoSeq1 (wpAny_loadPart')
section
variable {prog : Program} {w : World} {A : Around} {E : Value -> Shared -> Prop} {s : Shared}
end
section
variable {X : Cx}
end
end L2
namespace L2
open PySem PySem.Spec PyProof.Rows
section
variable {cap : List (Option Nat)} {g : TG} {tc : TT} {te : TE} {σ : St} {H1 : Hp} {Q : VK} {n : Nat}
end
end L2
namespace L2
open PySem PySem.Spec PyProof.Rows
theorem ones_rise : ∀ (p : Nat) (m : List Nat), risingS (tx [p]) (m.map fun c => tx [c]) = true -> (∀ c ∈ m, p <= c) /\ m.Pairwise (· <= ·)
  | p, [], _ => ⟨fun c h => by simp at h, .nil⟩
  | p, c :: r, h => by
    have h' : (!ltCps (tx [c]).cps.toList (tx [p]).cps.toList && risingS (tx [c]) (r.map fun c => tx [c])) = true := h
    rw [Bool.and_eq_true] at h'
    obtain ⟨a, b⟩ := h'
    obtain ⟨b1, b2⟩ := ones_rise c r b
    have hpc : p <= c := by
      rw [ltCps_eq] at a
      have a' : (!decide ([c] < [p])) = true := a
      have := of_decide_eq_false (Bool.not_eq_true' _ ▸ a')
      rcases Nat.lt_or_ge c p with z | z
      · exact absurd (List.Lex.rel z) this
      · exact z
    refine ⟨fun x hx => ?_, List.pairwise_cons.mpr ⟨b1, b2⟩⟩
    rcases List.mem_cons.mp hx with rfl | hx
    · exact hpc
    · exact Nat.le_trans hpc (b1 x hx)
theorem ones_sorted : ∀ (m : List Nat), sortedS ((m.map fun c => [c]).map tx) = true -> m.Pairwise (· <= ·)
  | [], _ => .nil
  | c :: r, h => by
    have h' : risingS (tx [c]) ((r.map fun c => [c]).map tx) = true := h
    rw [List.map_map] at h'
    obtain ⟨a, b⟩ := ones_rise c r h'
    exact List.pairwise_cons.mpr ⟨a, b⟩
end L2
set_option Elab.async false
set_option linter.all false
set_option maxRecDepth 100000
set_option maxHeartbeats 4000000
namespace L2
open PySem PySem.Spec PyProof.Rows
theorem sl_sit_next : Slot "set_iterator" "__next__" "set_iterator.__next__" := .of (owner := "set_iterator") (n := "__next__") (by rw [typeLookup_type, builtinLookup_eq_fast]; kernel_rfl) (by decide +kernel) (by decide +kernel) (by decide +kernel) (by first | exact .inl (by decide +kernel) | exact .inr (by decide +kernel)) (by rw [isSubtype_type]; kernel_rfl)
theorem en_sit_next : entryFor table "set_iterator.__next__" = some Builtin.«set_iterator.__next__» := entryFor_of_tree (by kernel_rfl)
theorem ar_sit_next (a : Value) : argsOk "set_iterator.__next__" ⟨[a], []⟩ := by unfold argsOk; kernel_rfl
theorem en_set_iter : entryFor table "set.__iter__" = some Builtin.«frozenset.__iter__» := entryFor_alias (id' := "frozenset.__iter__") (by kernel_rfl) (by first | rfl | decide +kernel | (unfold String.splitOn; simp +decide [String.splitOnAux])) (by decide +kernel) (by kernel_rfl)
def byTx (w : World) : Bool := w.params.followText "set-order"
def TabOk (w : World) (n : Nat) (t : SetTable) : Prop := (byTx w = true \/ t.led = true) /\ (n = 0 \/ t.plain = false)
theorem lay_marks (t : SetTable) (es : Array (Int × Value)) (h : Int) (x : Value) : (layNew t es h x).2.1.led = t.led /\ (t.plain = false -> (layNew t es h x).2.1.plain = false) := by
  unfold layNew
  split
  · dsimp only
    unfold SetTable.orStandIn
    split
    · exact ⟨rfl, fun z => z⟩
    · exact ⟨rfl, fun _ => rfl⟩
  · exact ⟨rfl, fun _ => rfl⟩
theorem relaid_marks {t t' : SetTable} {hs : Array Int} {n : Nat} {o : Array Nat} (h : t.relaid hs n = some (t', o)) : t'.led = t.led /\ t'.plain = t.plain := by
  unfold SetTable.relaid SetTable.laid at h
  cases hc : SetTable.layClean (SetTable.sizeAbove n - 1) hs with
  | none => rw [hc] at h; cases h
  | some ow =>
    rw [hc] at h
    have h' := Option.some.inj h
    obtain ⟨a, _⟩ := Prod.mk.inj h'
    subst a
    exact ⟨rfl, rfl⟩
theorem relay_marks (t : SetTable) (es : Array (Int × Value)) (n : Nat) : (relayAll t es n).2.1.led = t.led /\ (t.plain = false -> (relayAll t es n).2.1.plain = false) := by
  unfold relayAll
  split
  · rename_i t' o he
    obtain ⟨a, b⟩ := relaid_marks he
    dsimp only
    split
    · exact ⟨a, fun z => b.trans z⟩
    · exact ⟨rfl, fun _ => rfl⟩
  · exact ⟨rfl, fun _ => rfl⟩
section
variable {prog : Program} {w : World}
def SetT (prog : Program) (w : World) (h : Heap) (a : Addr) (ks : List Str) : Prop :=
  ∃ o es ep t, h.get? a = some o /\ o.ExactSet /\ o.data = .set es ep t /\ ElemsOf (PySem.strKind prog w) es.toList /\ (es.toList.map fun e => strOf e.2).Perm ks /\ es.size < scanBound /\ t.fits es.size = true /\ TabOk w es.size t
theorem elem_str {l : List (Int × Value)} (h : ElemsOf (PySem.strKind prog w) l) : ∀ e ∈ l, ∃ t, e.2 = .str (strOf e.2) t := fun e he => by
  obtain ⟨⟨k, hk, _⟩, _⟩ := h e he
  obtain ⟨t, ht⟩ := Value.isStrOf_shape hk
  exact ⟨t, by rw [ht]; rfl⟩
theorem isStr_iff {k : Str} {e : Int × Value} {l : List (Int × Value)} (h : ElemsOf (PySem.strKind prog w) l) (he : e ∈ l) : (PySem.strKind prog w).is k e.2 = true ↔ k = strOf e.2 := by
  obtain ⟨t, ht⟩ := elem_str h e he
  constructor
  · intro z
    obtain ⟨u, hu⟩ := Value.isStrOf_shape z
    rw [hu]; rfl
  · intro z
    show Value.isStrOf k e.2 = true
    rw [ht, z]
    show Value.isStrOf (strOf e.2) (.str (strOf e.2) t) = true
    unfold Value.isStrOf; simp
theorem SetT.keep {h h' : Heap} {a : Addr} {ks : List Str} (z : SetT prog w h a ks) (k : ∀ o, h.get? a = some o -> h'.get? a = some o) : SetT prog w h' a ks := let ⟨o, es, ep, t, ho, r⟩ := z; ⟨o, es, ep, t, k o ho, r⟩
variable {A : Around} {E : Value -> Shared -> Prop} {s : Shared}
theorem set_add {a : Addr} {ks : List Str} {x : Str} {tk : Tok} {Q : Bool -> Shared -> Prop} (z : SetT prog w s.heap a ks) (hroom : ks.length + 1 < scanBound)
    (q : ∀ b g, Heap.SameBut a s.heap g -> SetT prog w g a (if x ∈ ks then ks else ks ++ [x]) -> Q b { s with heap := g }) : wpAny (model prog w) A (setAddHashed a (.str x tk) ((PySem.strKind prog w).hash x)) Q E s := by
  obtain ⟨o, es, ep, t, ho, hex, hd, hel, hp, hb, hf, hto⟩ := z
  have hlen : es.size = ks.length := by have := hp.length_eq; simpa using this
  have hkey : (PySem.strKind prog w).is x (.str x tk) = true := by show Value.isStrOf x (.str x tk) = true; unfold Value.isStrOf; simp
  have hsc : (Value.str x tk).scannable = true := rfl
  unfold setAddHashed setAddHashedIn
  refine wpAny_holding (wpAny_bind (wpAny_setState_of ho hd hf ?_))
  dsimp only
  rw [byScan_of hsc hb hel, if_pos rfl]
  unfold setAddByScan
  refine wpAny_bind (wpAny_bind (wpAny_rule (wpAny_bind (wpAny_setScan_of hkey ho hd hf hel ?_))))
  cases hr : List.findIdx? (fun e => (PySem.strKind prog w).is x e.2) es.toList with
  | some j =>
    obtain ⟨hj, hpj, _⟩ := List.findIdx?_eq_some_iff_getElem.mp hr
    have hin : x ∈ ks := hp.mem_iff.mp (List.mem_map.mpr ⟨es.toList[j], List.getElem_mem hj, ((isStr_iff hel (List.getElem_mem hj)).mp hpj).symm⟩)
    refine wpAny_pure (wpAny_pure ?_)
    have e1 := q false s.heap (Heap.SameBut.refl a s.heap) (by rw [if_pos hin]; exact ⟨o, es, ep, t, ho, hex, hd, hel, hp, hb, hf, hto⟩)
    exact e1
  | none =>
    have hin : ¬ x ∈ ks := fun hx => by
      obtain ⟨e, he, hxe⟩ := List.mem_map.mp (hp.mem_iff.mpr hx)
      have y := List.findIdx?_eq_none_iff.mp hr e he
      rw [(isStr_iff hel he).mpr hxe.symm] at y
      cases y
    have q' := fun b g h1 h2 => q b g h1 (by rw [if_neg hin]; exact h2)
    dsimp only
    have lp := layNew_perm t es ((PySem.strKind prog w).hash x) (.str x tk)
    have lf := layNew_fits t es ((PySem.strKind prog w).hash x) (.str x tk)
    have lm := lay_marks t es ((PySem.strKind prog w).hash x) (.str x tk)
    generalize layNew t es ((PySem.strKind prog w).hash x) (.str x tk) = L at lp lf lm ⊢
    obtain ⟨es1, t1, wd, gv⟩ := L
    dsimp only at lp lf lm ⊢
    rw [Array.toList_push] at lp
    have el1 : ElemsOf (PySem.strKind prog w) es1.toList := (hel.push hkey hsc).perm lp
    have sz1 : es1.size = es.size + 1 := by have := lp.length_eq; simpa using this
    have b1 : es1.size < scanBound := by omega
    have p1 : (es1.toList.map fun e => strOf e.2).Perm (ks ++ [x]) := by
      have y := lp.map fun e : Int × Value => strOf e.2
      rw [List.map_append] at y
      exact y.trans (hp.append_right _)
    have gw : ∀ (b : Bool) {s₁ : Shared} {Q' : Unit -> Shared -> Prop}, Q' () s₁ -> wpAny (model prog w) A (match b with | true => rule "set.scan.the-table-gave-way" | false => pure ()) Q' E s₁ := fun b _ _ y => by cases b <;> first | exact wpAny_pure y | exact wpAny_rule y
    refine wpAny_bind (gw _ ?_)
    have fin : ∀ t2 : SetTable, t2.fits es1.size = true -> t2.led = t.led -> t2.plain = false -> wpAny (model prog w) A (do
        storeSet a es1 t2
        if (!wd && t2.tooFull) = true then do
            (match (relayAll t2 es1 (SetTable.grown es1.size)).2.2 with | true => rule "set.scan.the-table-gave-way" | false => pure ())
            storeSet a (relayAll t2 es1 (SetTable.grown es1.size)).1 (relayAll t2 es1 (SetTable.grown es1.size)).2.1
            pure (some true)
          else pure (some true)) (fun r s' => wpAny (model prog w) A (match r with | some added => pure added | none => setAddHashedIn a (.str x tk) ((PySem.strKind prog w).hash x) 99999) Q E s') E s := by
      intro t2 f2 l2 n2
      have to2 : TabOk w es1.size t2 := ⟨by rw [l2]; exact hto.1, .inr n2⟩
      refine wpAny_bind (wpAny_storeSet_of ho hd ?_ (fits_of_scanBound b1))
      have g1 : (s.heap.update a (Obj.putSet es1 t2)).get? a = some { o with data := .set es1 (ep + 1) t2 } := by
        have y := Heap.get?_update_self (Obj.putSet es1 t2) ho (by rw [putSet_of es1 t2 hd]; rfl)
        rw [putSet_of es1 t2 hd] at y; exact y
      have sb := Heap.SameBut.update s.heap a (Obj.putSet es1 t2)
      split
      · have rp := relayAll_perm t2 es1 (SetTable.grown es1.size)
        have rf := relayAll_fits t2 es1 (SetTable.grown es1.size)
        have rm := relay_marks t2 es1 (SetTable.grown es1.size)
        generalize relayAll t2 es1 (SetTable.grown es1.size) = R at rp rf rm ⊢
        obtain ⟨es2, t3, gv2⟩ := R
        dsimp only at rp rf rm ⊢
        have sz2 : es2.size = es1.size := by have := rp.length_eq; simpa using this
        refine wpAny_bind (gw _ (wpAny_bind (wpAny_storeSet_of g1 rfl (wpAny_pure (wpAny_pure ?_)) (fits_of_scanBound (by omega)))))
        have g2 : ((s.heap.update a (Obj.putSet es1 t2)).update a (Obj.putSet es2 t3)).get? a = some { o with data := .set es2 (ep + 1 + 1) t3 } := by
          have y := Heap.get?_update_self (Obj.putSet es2 t3) g1 (by rw [putSet_of es2 t3 rfl]; rfl)
          rw [putSet_of es2 t3 rfl] at y; exact y
        refine q' true _ (sb.trans (Heap.SameBut.update _ a _)) ⟨_, es2, _, t3, g2, hex, rfl, el1.perm rp, ?_, by omega, rf, ?_⟩
        · exact (rp.map fun e : Int × Value => strOf e.2).trans p1
        · exact ⟨by rw [rm.1, l2]; exact hto.1, .inr (rm.2 n2)⟩
      · exact wpAny_pure (wpAny_pure (q' true _ sb ⟨_, es1, _, t2, g1, hex, rfl, el1, p1, b1, f2, to2⟩))
    by_cases hpl : t1.plain = true
    · rw [if_pos hpl, hashByValue_scannable 8 hsc]
      refine wpAny_bind (wpAny_pure ?_)
      exact fin { t1 with plain := false } (SetTable.fits_plain_off lf) lm.1 rfl
    · rw [if_neg hpl]
      refine wpAny_bind (wpAny_pure ?_)
      exact fin t1 lf lm.1 (by simpa using hpl)
end
end L2
namespace L2
open PySem PySem.Spec PyProof.Rows
section
variable {prog : Program} {w : World} {A : Around} {R : Result -> Shared -> Prop} {I : Addr} {fp wr : List Addr} {n : Nat} {P : Nat -> Value -> Prop} {St : Nat -> Heap -> Prop}
def Met (prog : Program) (w : World) (val : Nat -> Str) (h : Heap) (a : Addr) (i : Nat) : Prop := ∃ ks, SetT prog w h a ks /\ ks.Nodup /\ (∀ x, x ∈ ks ↔ ∃ j, j < i /\ val j = x) /\ ks.length <= i
theorem set_fill (W : Walks prog w A.in1 I fp wr n P St) (S : Addr) (hSf : S ∉ fp) (val : Nat -> Str) (hval : ∀ i v, P i v -> ∃ t, v = .str (val i) t) (hb : n + 1 < scanBound) :
    ∀ (k i : Nat) (s : Shared), n - i = k -> i <= n -> St i s.heap -> Met prog w val s.heap S i ->
      (∀ g tk, Met prog w val g S n -> (∀ b o, b ≠ S -> b ∉ wr -> s.heap.get? b = some o -> g.get? b = some o) -> R (.ok (.ret .none)) { s with heap := g, toks := tk }) ->
      codeAny (model prog w) A (.builtin "set.update.loop" ⟨[.ref S, .ref I], []⟩) R s := by
  have hSw : S ∉ wr := fun h => hSf (W.sub _ h)
  intro k
  induction k with
  | zero =>
    intro i s hk hi st hM hR
    obtain rfl : i = n := by omega
    refine codeAny_builtin PyProof.Rows.F.entry_set_update_loop ?_
    rw [Around.under_plainId PyProof.Rows.F.plain_set_update_loop _]
    show wpAny _ A.in1 (pyNext (.ref I) >>= _) _ _ s
    refine wpAny_bind (W.done s _ _ st fun g tk kp => wpAny_pure (hR g tk ?_ fun b o _ hb e => kp b o hb e))
    obtain ⟨ks, z, r⟩ := hM
    exact ⟨ks, z.keep fun o e => kp S o hSw e, r⟩
  | succ k ih =>
    intro i s hk hi st hM hR
    have hlt : i < n := by omega
    refine codeAny_builtin PyProof.Rows.F.entry_set_update_loop ?_
    rw [Around.under_plainId PyProof.Rows.F.plain_set_update_loop _]
    show wpAny _ A.in1 (pyNext (.ref I) >>= _) _ _ s
    refine wpAny_bind (W.item i s _ _ hlt st fun v g tk hP st' kp => ?_)
    obtain ⟨t, rfl⟩ := hval i v hP
    obtain ⟨ks, z, nd, mem, len⟩ := hM
    have z' : SetT prog w g S ks := z.keep fun o e => kp S o hSw e
    refine wpAny_bind (wpAny_holding ?_)
    unfold setAdd
    refine wpAny_holding (wpAny_bind ((PySem.strKind prog w).pyHash (k := val i) (show Value.isStrOf (val i) (.str (val i) t) = true by unfold Value.isStrOf; simp) ?_))
    refine set_add (s := { s with heap := g, toks := tk + 1 }) z' (by omega) fun _ g2 sb z2 => ?_
    refine wpAny_pure ⟨plainId_quiet PyProof.Rows.F.plain_set_update_loop _, ih (i + 1) _ (by omega) hlt (W.frame _ _ _ st' fun b hb o e => ?_) ?_ fun g3 tk3 hM3 kp3 => ?_⟩
    · rw [sb.2 b (fun h : b = S => hSf (by rw [<- h]; exact hb))]; exact e
    · refine ⟨_, z2, ?_, fun x => ?_, ?_⟩
      · by_cases hx : val i ∈ ks
        · rw [if_pos hx]; exact nd
        · rw [if_neg hx]; exact List.nodup_append.mpr ⟨nd, by simp, fun a ha b hb => by rw [List.mem_singleton] at hb; subst hb; exact fun e => hx (e ▸ ha)⟩
      · by_cases hx : val i ∈ ks
        · rw [if_pos hx, mem x]
          constructor
          · rintro ⟨j, hj, e⟩; exact ⟨j, by omega, e⟩
          · rintro ⟨j, hj, e⟩
            by_cases hji : j = i
            · subst hji; subst e; exact (mem _).mp hx
            · exact ⟨j, by omega, e⟩
        · rw [if_neg hx, List.mem_append, mem x, List.mem_singleton]
          constructor
          · rintro (⟨j, hj, e⟩ | e)
            · exact ⟨j, by omega, e⟩
            · exact ⟨i, by omega, e.symm⟩
          · rintro ⟨j, hj, e⟩
            by_cases hji : j = i
            · subst hji; exact .inr e.symm
            · exact .inl ⟨j, by omega, e⟩
      · by_cases hx : val i ∈ ks
        · rw [if_pos hx]; omega
        · rw [if_neg hx, List.length_append, List.length_singleton]; omega
    · exact hR g3 tk3 hM3 fun b o hb hw e => kp3 b o hb hw ((sb.2 b hb).trans (kp b o hw e))
end
section
variable {prog : Program} {w : World} {A : Around} {E : Value -> Shared -> Prop} {s : Shared}
abbrev newSetOb (w : World) : Obj := { cls := .type "set", dict := none, data := .set #[] 0 (.fresh 0 0 (!byTx w)) }
theorem code_set_mk (a : Value) {Q₁ : Value -> Shared -> Prop} (h : Q₁ (.ref s.heap.objs.size) { s with heap := s.heap.push (newSetOb w) }) :
    codeAny (model prog w) A (.call (.builtin "set.__new__") ⟨[.type "set", a], []⟩) (wants Q₁ E) s := by
  refine codeAny_of_tree ?_
  show wpAny _ A.in1 (do checkBuiltinCall "set.__new__" ⟨[.type "set", a], []⟩; again (.builtin "set.__new__" ⟨[.type "set", a], []⟩)) _ _ s
  refine wpAny_bind (wpAny_of_eq (PySem.F.newCall_set_1 a) (wpAny_pure ⟨plainId_quiet PySem.F.plain_set_new _, codeAny_builtin PySem.F.entry_set_new ?_⟩))
  rw [Around.under_plainId PySem.F.plain_set_new _]
  unfold Builtin.«set.__new__» Builtin.Frozenset.newClass
  have sb := sub_set_self
  obtain ⟨hp, g, d, tk, os⟩ := s
  dsimp only
  wp_walk
  refine wpAny_askSetting (wpAny_pure ?_)
  dsimp only
  simp only [newObj]
  exact wpAny_bind (wpAny_alloc (wpAny_pure (wpAny_pure h)))
set_option maxHeartbeats 8000000 in
theorem call_set_walk {v : Value} {T : String} {iob : Obj} {fp : Addr -> List Addr} {n : Nat} {P : Nat -> Value -> Prop} {St : Addr -> Nat -> Heap -> Prop} {val : Nat -> Str} {Q : Value -> Shared -> Prop} (hT : Shared.TypeIs { s with heap := s.heap.push (newSetOb w) } v T)
    (n1 : isSubtype (.type T) (.type "set") = pure false) (n2 : isSubtype (.type T) (.type "frozenset") = pure false) (n3 : (Value.type T == Value.type "dict") = false)
    (hit : ∀ (A : Around) (E : Value -> Shared -> Prop) (Q : Value -> Shared -> Prop), Q (.ref (s.heap.objs.size + 1)) { s with heap := (s.heap.push (newSetOb w)).push iob } -> wpAny (model prog w) A (pyIter v) Q E { s with heap := s.heap.push (newSetOb w) })
    (W : ∀ (A : Around) (it : Addr), A.handled = none -> it = s.heap.objs.size + 1 -> Walks prog w A it (fp it) [it] n P (St it)) (hfp : s.heap.objs.size ∉ fp (s.heap.objs.size + 1)) (st : St (s.heap.objs.size + 1) 0 ((s.heap.push (newSetOb w)).push iob)) (hval : ∀ i v, P i v -> ∃ t, v = .str (val i) t)
    (hh : A.handled = none) (hb : n + 1 < scanBound)
    (q : ∀ g tk, Met prog w val g s.heap.objs.size n -> (∀ b o, s.heap.get? b = some o -> g.get? b = some o) -> Q (.ref s.heap.objs.size) { s with heap := g, toks := tk }) :
    wpAny (model prog w) A (call (.type "set") [v]) Q E s := by
  obtain ⟨c, tl, hmro⟩ := PySem.F.called_set.mro
  have hmade := PySem.F.called_set.made
  have hsub := PySem.F.called_set.sub
  refine wpAny_call (codeAny_of_tree ?_)
  show wpAny _ _ (callAny (.type "set") _) _ _ _
  refine wpAny_pure ⟨Code.quiet_builtin _ (by decide +kernel), codeAny_builtin PySem.F.entry_type_call ?_⟩
  rw [Around.under_plain (weight_type_call_type "set" [v] []) rfl]
  have h1 := PySem.F.called_set.notType
  have h2 := PySem.F.called_set.canCreate
  have hct := PySem.F.typeCall_set_1 v
  repeat (any_goals (first | assumption | wp_step))
  refine codeAny_mono (code_set_mk v (E := E) (Q₁ := fun obj s₁ => obj = .ref s.heap.objs.size /\ s₁ = { s with heap := s.heap.push (newSetOb w) }) ⟨rfl, rfl⟩) fun r s₁ hr => ?_
  cases r with
  | error e => exact hr
  | ok fl =>
    cases fl with
    | ret obj =>
      obtain ⟨rfl, rfl⟩ := hr
      have gS : (s.heap.push (newSetOb w)).get? s.heap.objs.size = some (newSetOb w) := Heap.get?_push_size _ rfl
      have tS : Shared.TypeIs { s with heap := s.heap.push (newSetOb w) } (.ref s.heap.objs.size) "set" := ⟨_, gS, rfl⟩
      have hli := PySem.F.called_set.init.lookup
      have hbi := PySem.F.called_set.init.bind (.ref s.heap.objs.size)
      repeat (any_goals (first | assumption | wp_step))
      refine codeAny_mono (codeAny_call_builtin (R := wants (fun r s₂ => r = .none /\ ∃ g tk, s₂ = { s with heap := g, toks := tk } /\ Met prog w val g s.heap.objs.size n /\ (∀ b o, s.heap.get? b = some o -> g.get? b = some o)) E) PySem.F.called_set.init.plain PySem.F.entry_set_init (check_set_init_1 tS ?_)) fun r₂ s₂ hr₂ => ?_
      · unfold Builtin.«set.__init__» noKeywords Builtin.Frozenset.updateFrom
        generalize hPI : pyIter = PI
        wp_walk
        subst hPI
        refine hit _ _ _ (wpAny_bind (wpAny_runValue ?_))
        have g0 : ((s.heap.push (newSetOb w)).push iob).get? s.heap.objs.size = some (newSetOb w) := Heap.get?_push_of_some _ gS
        have m0 : Met prog w val ((s.heap.push (newSetOb w)).push iob) s.heap.objs.size 0 := ⟨[], ⟨_, #[], 0, _, g0, ⟨rfl, rfl, rfl⟩, rfl, fun e he => by simp at he, by simp, by unfold scanBound; decide, rfl, ?_⟩, List.nodup_nil, fun x => by simp, Nat.le_refl _⟩
        · refine set_fill (W _ _ (by simpa using hh) rfl) s.heap.objs.size hfp val hval hb (n - 0) 0 _ rfl (Nat.zero_le _) st m0 fun g tk hM kp => ?_
          refine wpAny_pure (wpAny_pure ⟨rfl, g, tk, rfl, hM, fun b o e => kp b o (Nat.ne_of_lt (Heap.lt_size e)) (fun hbm => ?_) (Heap.get?_push_of_some _ (Heap.get?_push_of_some _ e))⟩)
          rw [List.mem_singleton] at hbm
          exact absurd (Heap.lt_size e) (by rw [hbm]; exact Nat.not_lt.mpr (Nat.le_succ _))
        · refine ⟨?_, .inl rfl⟩
          show byTx w = true \/ (!byTx w) = true
          cases byTx w <;> simp
      · cases r₂ with
        | error e => exact hr₂
        | ok fl₂ =>
          cases fl₂ with
          | ret r =>
            obtain ⟨rfl, g, tk, rfl, hM, kp⟩ := hr₂
            repeat (any_goals (first | assumption | wp_step))
            exact q g tk hM kp
          | _ => exact hr₂.elim
    | _ => exact hr.elim
end
end L2
set_option Elab.async false
set_option linter.all false
set_option maxRecDepth 100000
set_option maxHeartbeats 4000000
namespace L2
open PySem PySem.Spec PyProof.Rows
theorem erase_perm {α : Type} : ∀ {l : List α} {i : Nat} (h : i < l.length), (l[i] :: l.eraseIdx i).Perm l
  | x :: r, 0, _ => List.Perm.refl _
  | x :: r, i + 1, h => (List.Perm.swap x (r[i]'(by simpa using h)) (r.eraseIdx i)).trans ((erase_perm (l := r) (i := i) (by simpa using h)).cons x)
section
variable {M : Model} {A : Around} {E : Value -> Shared -> Prop}
theorem wp_choose_any {s : Shared} {src : Source} {n : Nat} {Q : Nat -> Shared -> Prop} (hn : n ≠ 0) (h : ∀ i, i < n -> ∀ d, Q i { s with drawn := d }) : wpAny M A (choose src n) Q E s := fun _ _ _ => ⟨hn, h _ (Nat.mod_lt _ (Nat.pos_of_ne_zero hn)) _⟩
theorem draw_any {α : Type} : ∀ (n : Nat) (xs : List α) (s : Shared) (Q : List α -> Shared -> Prop), xs.length = n -> (∀ ys, ys.Perm xs -> ∀ d, Q ys { s with drawn := d }) -> wpAny M A (drawOrder n xs) Q E s
  | 0, xs, s, Q, hl, h => by
    have e : xs = [] := List.eq_nil_of_length_eq_zero hl
    subst e
    unfold drawOrder
    exact wpAny_pure (h [] (List.Perm.refl _) s.drawn)
  | n + 1, [], s, Q, hl, h => by simp at hl
  | n + 1, x :: r, s, Q, hl, h => by
    unfold drawOrder
    refine wpAny_bind (wp_choose_any (by simp) fun i hi d => ?_)
    have e : (x :: r)[i]? = some (x :: r)[i] := List.getElem?_eq_getElem hi
    rw [e]
    dsimp only
    refine wpAny_bind (draw_any n ((x :: r).eraseIdx i) _ _ (by rw [List.length_eraseIdx, if_pos hi]; simp at hl ⊢; omega) fun ys hp d' => wpAny_pure (h _ ?_ d'))
    exact (List.Perm.cons _ hp).trans (erase_perm hi)
theorem pick_go {α : Type} (next : Nat -> Nat) : ∀ (fuel k : Nat) (left : List α) (out : Array α), left.length = fuel -> (pickOrder.go next fuel k left out).toList.Perm (out.toList ++ left)
  | 0, k, left, out, h => by
    have e : left = [] := List.eq_nil_of_length_eq_zero h
    subst e
    unfold pickOrder.go
    simp
  | fuel + 1, k, left, out, h => by
    have hlt : next k % left.length < left.length := Nat.mod_lt _ (by omega)
    unfold pickOrder.go
    rw [List.getElem?_eq_getElem hlt]
    dsimp only
    refine (pick_go next fuel (k + 1) _ _ (by rw [List.length_eraseIdx, if_pos hlt]; omega)).trans ?_
    rw [Array.toList_push, List.append_assoc]
    exact List.Perm.append_left _ (erase_perm hlt)
theorem pick_perm {α : Type} (next : Nat -> Nat) (xs : Array α) : (pickOrder next xs).toList.Perm xs.toList := by
  unfold pickOrder
  have := pick_go next xs.size 0 xs.toList #[] (by simp)
  simpa using this
end
abbrev sitOb (f : Value) (i : Int) (S : Addr) (n ep : Nat) : Obj := { cls := .type "set_iterator", dict := none, data := .fields #[f, rawInt i, .ref S, rawInt n, rawInt ep], slots := #[] }
section
variable {prog : Program} {w : World} {A : Around} {E : Value -> Shared -> Prop} {s : Shared}
theorem raise_stop {Q : Fin -> Shared -> Prop} (hh : A.handled = none) (q : ∀ g e, (∀ b o, s.heap.get? b = some o -> g.get? b = some o) -> (∃ o, g.get? e = some o /\ o.cls = .type "StopIteration") -> E (.ref e) { s with heap := g }) :
    wpAny (model prog w) A (do let x <- newExc (.type "StopIteration") []; raiseNew x) Q E s := by
  refine wpAny_bind ?_
  simp only [newExc, newTuple]
  refine wpAny_bind (wpAny_newObj_type (wpAny_bind (m := firstArgMember _ _) (wpAny_of_eq (a := Value.none) (by first | rfl | (simp only [firstArgMember]; rfl)) (wpAny_newObj_type ?_ (by size_fits)))) (by size_fits))
  simp only [raiseNew]
  refine wpAny_bind (wpAny_handled ?_)
  rw [hh]
  exact wpAny_bind (wpAny_pure (wpAny_throw (q _ _ (fun b o e => Heap.get?_push_of_some _ (Heap.get?_push_of_some _ e)) ⟨_, Heap.get?_push_size _ rfl, rfl⟩)))
structure SetAt (w : World) (h : Heap) (S : Addr) (es : Array (Int × Value)) (ep : Nat) (t : SetTable) : Prop where
  ex : ∃ o, h.get? S = some o /\ o.ExactSet /\ o.data = .set es ep t
  fits : t.fits es.size = true
theorem SetAt.keep {h h' : Heap} {S : Addr} {es : Array (Int × Value)} {ep : Nat} {t : SetTable} (z : SetAt w h S es ep t) (k : ∀ o, h.get? S = some o -> h'.get? S = some o) : SetAt w h' S es ep t := ⟨let ⟨o, ho, r⟩ := z.ex; ⟨o, k o ho, r⟩, z.fits⟩
theorem sit_place {it S p : Addr} {i n ep k : Nat} {es : Array (Int × Value)} {t : SetTable} {pv : Array Value} {pn : Nat} {x : Int × Value} {Q : Option Value -> Shared -> Prop} (hit : s.heap.get? it = some (sitOb (.ref p) i S n ep)) (hS : SetAt w s.heap S es ep t) (hn : es.size = n)
    (hp : ∃ o, s.heap.get? p = some o /\ o.cls = .type "tuple" /\ o.data = .seq pv pn) (hk : pv[i]? = some (rawInt k)) (hx : es[k]? = some x)
    (q : ∀ g, g.get? it = some (sitOb (.ref p) ((i : Int) + 1) S n ep) -> Heap.SameBut it s.heap g -> Q (some x.2) { s with heap := g }) : wpAny (model prog w) A (pyNext (.ref it)) Q E s := by
  obtain ⟨o, ho, hex, hd⟩ := hS.ex
  obtain ⟨op, hop, hcp, hdp⟩ := hp
  have T : Shared.TypeIs s (.ref it) "set_iterator" := ⟨_, hit, rfl⟩
  unfold pyNext
  refine wpAny_bind (wpAny_attempt (wpAny_callSpecial?_slot (name := Str.ofString "__next__") T sl_sit_next (wpAny_call_entry sl_sit_next T en_sit_next ?_ (ar_sit_next _))))
  show wpAny _ _ (fieldsOf (.ref it) >>= _) _ _ s
  refine wpAny_bind (wpAny_fieldsOf hit rfl ?_)
  dsimp only
  refine wpAny_bind (wpAny_setEntries_of ho hd hS.fits ?_)
  rw [if_neg (by rw [hn]; simp)]
  refine wpAny_bind (wpAny_seqItems hop hdp ?_)
  simp only [Int.toNat_natCast, hk]
  unfold setNextDrawn
  refine wpAny_bind (wpAny_bind (wpAny_setState_of ho hd hS.fits ?_))
  dsimp only
  rw [if_neg (by simp), Int.toNat_natCast, hx]
  refine wpAny_pure (wpAny_bind (wpAny_setField_rec hit (by simp) fun g e1 e2 => wpAny_pure ⟨_, rfl, wpAny_pure (q g (by simpa using e1) e2)⟩))
theorem sit_place_end {it S p : Addr} {i n ep : Nat} {es : Array (Int × Value)} {t : SetTable} {pv : Array Value} {pn : Nat} {Q : Option Value -> Shared -> Prop} (hh : A.handled = none) (hit : s.heap.get? it = some (sitOb (.ref p) i S n ep)) (hS : SetAt w s.heap S es ep t) (hn : es.size = n)
    (hp : ∃ o, s.heap.get? p = some o /\ o.cls = .type "tuple" /\ o.data = .seq pv pn) (hk : pv[i]? = none)
    (q : ∀ g, (∀ b o, b ≠ it -> s.heap.get? b = some o -> g.get? b = some o) -> Q none { s with heap := g }) : wpAny (model prog w) A (pyNext (.ref it)) Q E s := by
  obtain ⟨o, ho, hex, hd⟩ := hS.ex
  obtain ⟨op, hop, hcp, hdp⟩ := hp
  have T : Shared.TypeIs s (.ref it) "set_iterator" := ⟨_, hit, rfl⟩
  unfold pyNext
  refine wpAny_bind (wpAny_attempt (wpAny_callSpecial?_slot (name := Str.ofString "__next__") T sl_sit_next (wpAny_call_entry sl_sit_next T en_sit_next ?_ (ar_sit_next _))))
  show wpAny _ _ (fieldsOf (.ref it) >>= _) _ _ s
  refine wpAny_bind (wpAny_fieldsOf hit rfl ?_)
  dsimp only
  refine wpAny_bind (wpAny_setEntries_of ho hd hS.fits ?_)
  rw [if_neg (by rw [hn]; simp)]
  refine wpAny_bind (wpAny_seqItems hop hdp ?_)
  simp only [Int.toNat_natCast, hk]
  refine wpAny_bind (wpAny_setField_rec hit (by simp) fun g e1 e2 => wpAny_bind (wpAny_setField_rec e1 (by simp) fun g2 e3 e4 => raise_stop (s := { s with heap := g2 }) (show A.in1.handled = none from hh) fun g3 e kp hx => ?_))
  obtain ⟨ox, hox, hcx⟩ := hx
  refine wpAny_bind (wpAny_isInstance (T := "StopIteration") (b := true) ⟨ox, hox, hcx⟩ isSubtype_stop (wpAny_pure (q g3 fun b o hb e => kp b o ?_)))
  exact e4.extBut b o hb (e2.extBut b o hb e)
theorem sit_slot {it S : Addr} {i n ep sl sl' : Nat} {es : Array (Int × Value)} {t : SetTable} {x : Value} {Q : Option Value -> Shared -> Prop} (hit : s.heap.get? it = some (sitOb (rawInt sl) i S n ep)) (hS : SetAt w s.heap S es ep t) (hn : es.size = n)
    (hx : ∀ (Q' : Option (Value × Nat) -> Shared -> Prop) (E' : Value -> Shared -> Prop), Q' (some (x, sl')) s -> wpAny (model prog w) A.in1 (setNext S sl i ep) Q' E' s)
    (q : ∀ g, g.get? it = some (sitOb (rawInt sl') ((i : Int) + 1) S n ep) -> Heap.SameBut it s.heap g -> Q (some x) { s with heap := g }) : wpAny (model prog w) A (pyNext (.ref it)) Q E s := by
  obtain ⟨o, ho, hex, hd⟩ := hS.ex
  have T : Shared.TypeIs s (.ref it) "set_iterator" := ⟨_, hit, rfl⟩
  unfold pyNext
  refine wpAny_bind (wpAny_attempt (wpAny_callSpecial?_slot (name := Str.ofString "__next__") T sl_sit_next (wpAny_call_entry sl_sit_next T en_sit_next ?_ (ar_sit_next _))))
  show wpAny _ _ (fieldsOf (.ref it) >>= _) _ _ s
  refine wpAny_bind (wpAny_fieldsOf hit rfl ?_)
  dsimp only
  refine wpAny_bind (wpAny_setEntries_of ho hd hS.fits ?_)
  rw [if_neg (by rw [hn]; simp)]
  show wpAny _ _ (setNext S (sl : Int).toNat (i : Int).toNat (ep : Int).toNat >>= _) _ _ s
  simp only [Int.toNat_natCast]
  refine wpAny_bind (hx _ _ ?_)
  dsimp only
  refine wpAny_bind (wpAny_setField_rec hit (by simp) fun g e1 e2 => wpAny_bind (wpAny_setField_rec e1 (by simp) fun g2 e3 e4 => wpAny_pure ⟨_, rfl, wpAny_pure (q g2 (by simpa using e3) (e2.trans e4))⟩))
theorem sit_slot_end {it S : Addr} {i n ep sl : Nat} {es : Array (Int × Value)} {t : SetTable} {Q : Option Value -> Shared -> Prop} (hh : A.handled = none) (hit : s.heap.get? it = some (sitOb (rawInt sl) i S n ep)) (hS : SetAt w s.heap S es ep t) (hn : es.size = n)
    (hx : ∀ (Q' : Option (Value × Nat) -> Shared -> Prop) (E' : Value -> Shared -> Prop), Q' none s -> wpAny (model prog w) A.in1 (setNext S sl i ep) Q' E' s)
    (q : ∀ g, (∀ b o, b ≠ it -> s.heap.get? b = some o -> g.get? b = some o) -> Q none { s with heap := g }) : wpAny (model prog w) A (pyNext (.ref it)) Q E s := by
  obtain ⟨o, ho, hex, hd⟩ := hS.ex
  have T : Shared.TypeIs s (.ref it) "set_iterator" := ⟨_, hit, rfl⟩
  unfold pyNext
  refine wpAny_bind (wpAny_attempt (wpAny_callSpecial?_slot (name := Str.ofString "__next__") T sl_sit_next (wpAny_call_entry sl_sit_next T en_sit_next ?_ (ar_sit_next _))))
  show wpAny _ _ (fieldsOf (.ref it) >>= _) _ _ s
  refine wpAny_bind (wpAny_fieldsOf hit rfl ?_)
  dsimp only
  refine wpAny_bind (wpAny_setEntries_of ho hd hS.fits ?_)
  rw [if_neg (by rw [hn]; simp)]
  show wpAny _ _ (setNext S (sl : Int).toNat (i : Int).toNat (ep : Int).toNat >>= _) _ _ s
  simp only [Int.toNat_natCast]
  refine wpAny_bind (hx _ _ ?_)
  dsimp only
  refine wpAny_bind (wpAny_setField_rec hit (by simp) fun g e1 e2 => raise_stop (s := { s with heap := g }) (show A.in1.handled = none from hh) fun g3 e kp hx => ?_)
  obtain ⟨ox, hox, hcx⟩ := hx
  exact wpAny_bind (wpAny_isInstance (T := "StopIteration") (b := true) ⟨ox, hox, hcx⟩ isSubtype_stop (wpAny_pure (q g3 fun b o hb e => kp b o (e2.extBut b o hb e))))
end
end L2
namespace L2
open PySem PySem.Spec PyProof.Rows
theorem sl_sit_iter : Slot "set_iterator" "__iter__" "set_iterator.__iter__" := .of (owner := "set_iterator") (n := "__iter__") (by rw [typeLookup_type, builtinLookup_eq_fast]; kernel_rfl) (by decide +kernel) (by decide +kernel) (by decide +kernel) (by first | exact .inl (by decide +kernel) | exact .inr (by decide +kernel)) (by rw [isSubtype_type]; kernel_rfl)
theorem ar_sit_iter (a : Value) : argsOk "set_iterator.__iter__" ⟨[a], []⟩ := by unfold argsOk; kernel_rfl
theorem en_sit_iter : entryFor table "set_iterator.__iter__" = some Builtin.«dict_keyiterator.__iter__» := entryFor_alias (id' := "dict_keyiterator.__iter__") (by kernel_rfl) (by first | rfl | decide +kernel | (unfold String.splitOn; simp +decide [String.splitOnAux])) (by decide +kernel) (by kernel_rfl)
section
variable {prog : Program} {w : World} {A : Around} {E : Value -> Shared -> Prop} {s : Shared}
theorem sit_self {it S : Addr} {f : Value} {i : Int} {n ep : Nat} {Q : Value -> Shared -> Prop} (hit : s.heap.get? it = some (sitOb f i S n ep)) (q : Q (.ref it) s) : wpAny (model prog w) A (pyIter (.ref it)) Q E s := by
  have T : Shared.TypeIs s (.ref it) "set_iterator" := ⟨_, hit, rfl⟩
  exact wpAny_pyIter_slot T sl_sit_iter (wpAny_call_entry sl_sit_iter T en_sit_iter (wpAny_pure ⟨_, rfl, "set_iterator", _, T, sl_sit_next.lookup, q⟩) (ar_sit_iter _))
theorem walk_place (hh : A.handled = none) {it S p : Addr} {n ep : Nat} {es : Array (Int × Value)} {t : SetTable} {pl : List Nat} (hpl : pl.Perm (List.range n)) (hn : es.size = n) (h1 : it ≠ S) (h2 : it ≠ p) :
    Walks prog w A it [it, p, S] [it] n (fun i v => ∃ k x, pl[i]? = some k /\ es[k]? = some x /\ v = x.2) (fun i h => i <= n /\ h.get? it = some (sitOb (.ref p) i S n ep) /\ (∃ o, h.get? p = some o /\ o.cls = .type "tuple" /\ ∃ e, o.data = .seq (pl.map fun k : Nat => rawInt k).toArray e) /\ SetAt w h S es ep t) where
  sub := fun b hb => by simp at hb; simp [hb]
  frame := fun i h h' st k => ⟨st.1, k it (by simp) _ st.2.1, (let ⟨o, ho, r⟩ := st.2.2.1; ⟨o, k p (by simp) o ho, r⟩), st.2.2.2.keep fun o ho => k S (by simp) o ho⟩
  item := fun i s Q E hi st q => by
    obtain ⟨_, hit, ⟨op, hop, hcp, e, hdp⟩, hS⟩ := st
    have hl : pl.length = n := by have := hpl.length_eq; simpa using this
    have hk : pl[i]? = some pl[i] := List.getElem?_eq_getElem (by omega)
    have hkn : pl[i] < es.size := by rw [hn]; exact List.mem_range.mp (hpl.mem_iff.mp (List.getElem_mem (by omega)))
    refine sit_place hit hS hn ⟨op, hop, hcp, hdp⟩ (k := pl[i]) (x := es[pl[i]]) (by simp [hk]) (by simp [hkn]) fun g a b => q _ g s.toks ⟨pl[i], es[pl[i]], hk, by simp [hkn], rfl⟩ ⟨hi, ?_, ⟨op, b.extBut p op (Ne.symm h2) hop, hcp, e, hdp⟩, hS.keep fun o ho => b.extBut S o (Ne.symm h1) ho⟩ fun c o hc ho => b.extBut c o (fun z => hc (by simp [z])) ho
    rw [a]; rfl
  done := fun s Q E st q => by
    obtain ⟨_, hit, ⟨op, hop, hcp, e, hdp⟩, hS⟩ := st
    have hl : pl.length = n := by have := hpl.length_eq; simpa using this
    exact sit_place_end hh hit hS hn ⟨op, hop, hcp, hdp⟩ (by simp [hl]) fun g kp => q g s.toks fun c o hc ho => kp c o (fun z => hc (by simp [z])) ho
  self := fun i s Q E st q => sit_self st.2.1 q
theorem walk_slot (hh : A.handled = none) {it S : Addr} {n ep : Nat} {es : Array (Int × Value)} {t : SetTable} {vs : List Value} {sl : Nat -> Nat} (hv : vs.length = n) (hn : es.size = n) (h1 : it ≠ S)
    (hx : ∀ (s : Shared) (i : Nat), SetAt w s.heap S es ep t -> i <= n -> ∀ (A : Around) (Q' : Option (Value × Nat) -> Shared -> Prop) (E' : Value -> Shared -> Prop), Q' ((vs[i]?).map fun v => (v, sl (i + 1))) s -> wpAny (model prog w) A (setNext S (sl i) i ep) Q' E' s) :
    Walks prog w A it [it, S] [it] n (fun i v => vs[i]? = some v) (fun i h => i <= n /\ h.get? it = some (sitOb (rawInt (sl i)) i S n ep) /\ SetAt w h S es ep t) where
  sub := fun b hb => by simp at hb; simp [hb]
  frame := fun i h h' st k => ⟨st.1, k it (by simp) _ st.2.1, st.2.2.keep fun o ho => k S (by simp) o ho⟩
  item := fun i s Q E hi st q => by
    obtain ⟨_, hit, hS⟩ := st
    have hk : vs[i]? = some vs[i] := List.getElem?_eq_getElem (by omega)
    refine sit_slot (x := vs[i]) (sl' := sl (i + 1)) hit hS hn (fun Q' E' y => hx s i hS (Nat.le_of_lt hi) _ Q' E' (by rw [hk]; exact y)) fun g a b => q _ g s.toks hk ⟨hi, ?_, hS.keep fun o ho => b.extBut S o (Ne.symm h1) ho⟩ fun c o hc ho => b.extBut c o (fun z => hc (by simp [z])) ho
    rw [a]; rfl
  done := fun s Q E st q => by
    obtain ⟨_, hit, hS⟩ := st
    have hk : vs[n]? = none := List.getElem?_eq_none (by omega)
    exact sit_slot_end hh hit hS hn (fun Q' E' y => hx s n hS (Nat.le_refl _) _ Q' E' (by rw [hk]; exact y)) fun g kp => q g s.toks fun c o hc ho => kp c o (fun z => hc (by simp [z])) ho
  self := fun i s Q E st q => sit_self st.2.1 q
end
end L2
set_option Elab.async false
set_option linter.all false
set_option maxRecDepth 100000
set_option maxHeartbeats 4000000
namespace L2
open PySem PySem.Spec PyProof.Rows
section
variable {prog : Program} {w : World} {A : Around} {E : Value -> Shared -> Prop} {s : Shared}
theorem byText_wp {Q : Bool -> Shared -> Prop} (q : Q (byTx w) s) : wpAny (model prog w) A setsByText Q E s := by
  unfold setsByText
  exact wpAny_bind (wpAny_askSetting (wpAny_pure q))
theorem next_text {S : Addr} {es : Array (Int × Value)} {ep : Nat} {t : SetTable} {i : Nat} {Q : Option (Value × Nat) -> Shared -> Prop} (hb : byTx w = true) (hS : SetAt w s.heap S es ep t)
    (q : Q ((((pickOrder (w.params.setOrder S ep) es).toList.map (·.2))[i]?).map fun v => (v, 0)) s) : wpAny (model prog w) A (setNext S 0 i ep) Q E s := by
  obtain ⟨o, ho, hex, hd⟩ := hS.ex
  unfold setNext
  refine wpAny_bind (wpAny_setState_of ho hd hS.fits ?_)
  dsimp only
  refine wpAny_bind (byText_wp ?_)
  rw [hb, if_pos rfl, if_neg (by simp)]
  unfold setWalk
  refine wpAny_bind (wpAny_bind (wpAny_setState_of ho hd hS.fits ?_))
  dsimp only
  refine wpAny_bind (byText_wp ?_)
  rw [hb, if_pos rfl]
  refine wpAny_bind (wpAny_askSetting (wpAny_pure (wpAny_pure ?_)))
  have e : ((pickOrder (w.params.setOrder S ep) es)[i]?).map (fun e => (e.2, 0)) = (((pickOrder (w.params.setOrder S ep) es).toList.map (·.2))[i]?).map fun v => (v, 0) := by
    rw [List.getElem?_map, Array.getElem?_toList, Option.map_map]; rfl
  show Q (((pickOrder (w.params.setOrder S ep) es)[i]?).map fun e => (e.2, 0)) s
  rw [e]; exact q
theorem below_one (p : Nat) : SetTable.below #[p] 0 = 0 /\ SetTable.below #[p] (p + 1) = 1 := by
  unfold SetTable.below
  constructor
  · simp [SetTable.below.go]
  · simp [SetTable.below.go]
theorem next_one {S : Addr} {es : Array (Int × Value)} {ep : Nat} {t : SetTable} {i : Nat} {Q : Option (Value × Nat) -> Shared -> Prop} (hb : byTx w = false) (hS : SetAt w s.heap S es ep t) (hled : t.led = true) (h1 : es.size <= 1) (hi : i <= es.size)
    (q : Q (((es.toList.map (·.2))[i]?).map fun v => (v, if i + 1 = 0 then 0 else t.place.getD 0 0 + 1)) s) : wpAny (model prog w) A (setNext S (if i = 0 then 0 else t.place.getD 0 0 + 1) i ep) Q E s := by
  obtain ⟨o, ho, hex, hd⟩ := hS.ex
  have hf := hS.fits
  have hps : t.place.size = es.size := by
    unfold SetTable.fits at hf
    simp only [Bool.and_eq_true, beq_iff_eq] at hf
    exact hf.1
  unfold setNext
  refine wpAny_bind (wpAny_setState_of ho hd hS.fits ?_)
  dsimp only
  refine wpAny_bind (byText_wp ?_)
  rw [hb, if_neg Bool.false_ne_true]
  show wpAny _ _ (if (!t.plain && decide (es.size > 1)) = true then _ else _) _ _ _
  rw [if_neg (by simp; omega)]
  show wpAny _ _ ((if (!t.led && !es.isEmpty) = true then _ else pure ()) >>= _) _ _ _
  rw [if_neg (by simp [hled])]
  refine wpAny_bind (wpAny_pure (wpAny_pure ?_))
  by_cases hz : es.size = 0
  · have e1 : es = #[] := Array.eq_empty_of_size_eq_zero hz
    subst e1
    simpa using q
  · have hs1 : es.size = 1 := by omega
    obtain ⟨x, rfl⟩ : ∃ x, es = #[x] := by
      obtain ⟨l⟩ := es
      match l, hs1 with
      | [x], _ => exact ⟨x, rfl⟩
    obtain ⟨p, hp⟩ : ∃ p, t.place = #[p] := by
      generalize t.place = pl at hps
      obtain ⟨l⟩ := pl
      match l, hps with
      | [x], _ => exact ⟨x, rfl⟩
    rw [hp] at q ⊢
    rcases (show i = 0 \/ i = 1 by simp at hi; omega) with rfl | rfl
    · simp [below_one] at q ⊢; exact q
    · simp [below_one] at q ⊢; exact q
end
end L2
namespace L2
open PySem PySem.Spec PyProof.Rows
theorem perm_map_get {α β : Type} [Inhabited β] (f : Nat -> β) (xs : List α) (g : α -> β) (n : Nat) (hn : xs.length = n) (hf : ∀ i x, xs[i]? = some x -> f i = g x) : (List.range n).map f = xs.map g := by
  apply List.ext_getElem?
  intro i
  rw [List.getElem?_map, List.getElem?_map]
  by_cases h : i < n
  · rw [List.getElem?_range h, List.getElem?_eq_getElem (by omega)]
    exact congrArg some (hf i _ (List.getElem?_eq_getElem (by omega)))
  · rw [List.getElem?_eq_none (by simp; omega), List.getElem?_eq_none (by omega)]; rfl
section
variable {prog : Program} {w : World} {A : Around} {E : Value -> Shared -> Prop} {s : Shared}
theorem iter_set {S : Addr} {es : Array (Int × Value)} {ep : Nat} {t : SetTable} {Q : Value -> Shared -> Prop} (hS : SetAt w s.heap S es ep t) (hto : TabOk w es.size t) (hsz : es.size <= sizeLine)
    (q : ∀ (g : Heap) (d : Drawn) (it : Addr) (fp : List Addr) (P : Nat -> Value -> Prop) (St : Nat -> Heap -> Prop), (∀ A : Around, A.handled = none -> Walks prog w A it fp [it] es.size P St) -> St 0 g -> s.heap.objs.size <= it -> (∀ b ∈ fp, b = S \/ s.heap.objs.size <= b) -> (∀ b ∈ fp, b < g.objs.size) -> (∀ b o, s.heap.get? b = some o -> g.get? b = some o) ->
      (∀ acc, ItemsOf P acc es.size -> acc.toList.Perm (es.toList.map (·.2))) -> Q (.ref it) { s with heap := g, drawn := d }) : wpAny (model prog w) A (pyIter (.ref S)) Q E s := by
  obtain ⟨o, ho, hex, hd⟩ := hS.ex
  have T : Shared.TypeIs s (.ref S) "set" := ⟨o, ho, hex.1⟩
  have hSlt := Heap.lt_size ho
  refine wpAny_pyIter_slot T PySem.F.slot_set_iter (wpAny_call_entry PySem.F.slot_set_iter T en_set_iter ?_ (PySem.F.args_set_iter_1 _))
  show wpAny _ _ (Builtin.Frozenset.sizeOf S >>= _) _ _ s
  unfold Builtin.Frozenset.sizeOf
  refine wpAny_bind (wpAny_bind (wpAny_setEntries_of ho hd hS.fits (wpAny_pure ?_)))
  unfold setDrawn
  refine wpAny_bind (wpAny_bind (wpAny_setState_of ho hd hS.fits ?_))
  dsimp only
  refine wpAny_bind (byText_wp (wpAny_pure ?_))
  by_cases hdr : (!byTx w && (!t.plain && decide (es.size > 1))) = true
  · show wpAny _ _ (if (!byTx w && (!t.plain && decide (es.size > 1))) = true then _ else _) _ _ _
    rw [if_pos hdr]
    refine wpAny_bind (draw_any es.size (List.range es.size) _ _ (by simp) fun pl hp d => ?_)
    have hl : pl.length = es.size := by have := hp.length_eq; simpa using this
    refine wpAny_bind (wpAny_newTuple ?_ (by rw [List.length_map, hl]; exact hsz))
    have hS1 : SetAt w (s.heap.push { cls := .type "tuple", data := .seq (pl.map fun i : Nat => rawInt i).toArray }) S es ep t := hS.keep fun o e => Heap.get?_push_of_some _ e
    obtain ⟨o1, ho1, _, hd1⟩ := hS1.ex
    refine wpAny_bind (wpAny_setEpoch_of (s := { s with heap := s.heap.push { cls := .type "tuple", data := .seq (pl.map fun i : Nat => rawInt i).toArray }, drawn := d }) ho1 hd1 hS.fits ?_)
    refine wpAny_bind (wpAny_newObj_type (wpAny_pure ⟨_, rfl, "set_iterator", _, ⟨_, Heap.get?_push_size _ rfl, rfl⟩, sl_sit_next.lookup, ?_⟩))
    have z : (s.heap.push { cls := .type "tuple", data := .seq (pl.map fun i : Nat => rawInt i).toArray }).objs.size = s.heap.objs.size + 1 := Heap.size_push ..
    refine q _ d _ [_, s.heap.objs.size, S] _ _ (fun A hA => walk_place (p := s.heap.objs.size) (t := t) (ep := ep) hA hp rfl ?_ ?_) ⟨Nat.zero_le _, Heap.get?_push_size _ rfl, ⟨_, Heap.get?_push_of_some _ (Heap.get?_push_size _ rfl), rfl, 0, rfl⟩, hS1.keep fun o e => Heap.get?_push_of_some _ e⟩ ?_ (fun b hb => ?_) (fun b hb => ?_) (fun b o e => Heap.get?_push_of_some _ (Heap.get?_push_of_some _ e)) fun acc hacc => ?_
    · rw [z]; exact Nat.ne_of_gt (Nat.lt_succ_of_lt hSlt)
    · rw [z]; exact Nat.succ_ne_self _
    · rw [z]; exact Nat.le_succ _
    · simp only [List.mem_cons, List.not_mem_nil, or_false] at hb
      rcases hb with rfl | rfl | rfl
      · rw [z]; exact .inr (Nat.le_succ _)
      · exact .inr (Nat.le_refl _)
      · exact .inl rfl
    · simp only [List.mem_cons, List.not_mem_nil, or_false] at hb
      have z2 : ∀ o2, ((s.heap.push { cls := .type "tuple", data := .seq (pl.map fun i : Nat => rawInt i).toArray }).push o2).objs.size = s.heap.objs.size + 2 := fun o2 => by rw [Heap.size_push, z]
      rw [z2]
      rcases hb with rfl | rfl | rfl
      · rw [z]; exact Nat.lt_succ_self _
      · exact Nat.lt_succ_of_lt (Nat.lt_succ_self _)
      · exact Nat.lt_succ_of_lt (Nat.lt_succ_of_lt hSlt)
    · have e : acc.toList = pl.map fun k => (es.getD k (0, .none)).2 := by
        apply List.ext_getElem?
        intro i
        rw [List.getElem?_map]
        by_cases hi : i < es.size
        · have hia : i < acc.size := by rw [hacc.1]; exact hi
          have ha : acc[i]? = some (acc[i]'hia) := Array.getElem?_eq_getElem hia
          obtain ⟨k, x, h1, h2, h3⟩ := hacc.2 i _ ha
          rw [Array.getElem?_toList, ha, h1]
          have : es.getD k (0, .none) = x := by rw [Array.getD_eq_getD_getElem?, h2]; rfl
          rw [h3]
          show some x.2 = some (es.getD k (0, .none)).2
          rw [this]
        · rw [List.getElem?_eq_none (by rw [Array.length_toList, hacc.1]; omega), List.getElem?_eq_none (by omega)]; rfl
      rw [e]
      refine (hp.map _).trans (List.Perm.of_eq ?_)
      exact perm_map_get _ es.toList (·.2) es.size (by simp) fun i x hx => by
        have hx' : es[i]? = some x := by rw [<- Array.getElem?_toList]; exact hx
        rw [Array.getD_eq_getD_getElem?, hx']; rfl
  · show wpAny _ _ (if (!byTx w && (!t.plain && decide (es.size > 1))) = true then _ else _) _ _ _
    rw [if_neg hdr]
    refine wpAny_bind (wpAny_pure (wpAny_bind (wpAny_setEpoch_of ho hd hS.fits ?_)))
    refine wpAny_bind (wpAny_newObj_type (wpAny_pure ⟨_, rfl, "set_iterator", _, ⟨_, Heap.get?_push_size _ rfl, rfl⟩, sl_sit_next.lookup, ?_⟩))
    have fin : ∀ (vs : List Value) (sl : Nat -> Nat), sl 0 = 0 -> vs.Perm (es.toList.map (·.2)) -> (∀ (s : Shared) (i : Nat), SetAt w s.heap S es ep t -> i <= es.size -> ∀ (A : Around) (Q' : Option (Value × Nat) -> Shared -> Prop) (E' : Value -> Shared -> Prop), Q' ((vs[i]?).map fun v => (v, sl (i + 1))) s -> wpAny (model prog w) A (setNext S (sl i) i ep) Q' E' s) ->
        Q (.ref s.heap.objs.size) { s with heap := s.heap.push (sitOb (rawInt 0) 0 S es.size ep) } := fun vs sl h0 hp hx => by
      have hl : vs.length = es.size := by have := hp.length_eq; simpa using this
      refine q _ s.drawn s.heap.objs.size [s.heap.objs.size, S] _ _ (fun A hA => walk_slot (t := t) (ep := ep) (vs := vs) (sl := sl) hA hl rfl (Nat.ne_of_gt hSlt) hx) ⟨Nat.zero_le _, ?_, hS.keep fun o e => Heap.get?_push_of_some _ e⟩ (Nat.le_refl _) (fun b hb => ?_) (fun b hb => ?_) (fun b o e => Heap.get?_push_of_some _ e) fun acc hacc => ?_
      · rw [h0]; exact Heap.get?_push_size _ rfl
      · simp only [List.mem_cons, List.not_mem_nil, or_false] at hb
        rcases hb with rfl | rfl
        · exact .inr (Nat.le_refl _)
        · exact .inl rfl
      · simp only [List.mem_cons, List.not_mem_nil, or_false] at hb
        rw [Heap.size_push]
        rcases hb with rfl | rfl
        · exact Nat.lt_succ_self _
        · exact Nat.lt_succ_of_lt hSlt
      · have e : acc.toList = vs := by
          apply List.ext_getElem?
          intro i
          by_cases hi : i < es.size
          · have hia : i < acc.size := by rw [hacc.1]; exact hi
            have ha : acc[i]? = some (acc[i]'hia) := Array.getElem?_eq_getElem hia
            rw [Array.getElem?_toList, ha, hacc.2 i _ ha]
          · rw [List.getElem?_eq_none (by rw [Array.length_toList, hacc.1]; omega), List.getElem?_eq_none (by omega)]
        rw [e]; exact hp
    cases hb : byTx w with
    | true => exact fin ((pickOrder (w.params.setOrder S ep) es).toList.map (·.2)) (fun _ => 0) rfl ((pick_perm _ _).map _) fun s i hS' hi A Q' E' y => next_text hb hS' y
    | false =>
      have h1 : es.size <= 1 := by
        rcases hto.2 with z | z
        · omega
        · rw [hb, z] at hdr; simp at hdr; omega
      have hled : t.led = true := hto.1.resolve_left (by rw [hb]; exact Bool.false_ne_true)
      exact fin (es.toList.map (·.2)) (fun i => if i = 0 then 0 else t.place.getD 0 0 + 1) rfl (List.Perm.refl _) fun s i hS' hi A Q' E' y => next_one hb hS' hled h1 hi y
end
end L2
namespace L2
open PySem PySem.Spec PyProof.Rows
section
variable {prog : Program} {w : World} {A : Around} {E : Value -> Shared -> Prop} {s : Shared}
theorem hint_set {S : Addr} {Q : Bool -> Shared -> Prop} (T : s.TypeIs (.ref S) "set") (q : Q false s) : wpAny (model prog w) A (Builtin.List.listLengthHint (.ref S)) Q E s := by
  unfold Builtin.List.listLengthHint
  refine wpAny_bind (wpAny_specialOf T PySem.F.slot_set_len.lookup ?_)
  generalize hid : ("set.__len__" : String) = id0
  wp_delta
  rw [show splitId id0 = some ("set", "__len__") from by subst hid; decide +kernel]
  subst hid
  refine wpAny_bind (wpAny_isInstance (T := "set") (b := true) T (by rw [isSubtype_type]; kernel_rfl) ?_)
  refine wpAny_ite_split (fun y => absurd y (by decide)) (fun _ => wpAny_ite_split (fun _ => ?_) (fun y => absurd (by decide +kernel) y))
  exact wpAny_bind (wpAny_typeOf T (wpAny_pure q))
theorem collect_set {S : Addr} {es : Array (Int × Value)} {ep : Nat} {t : SetTable} {Q : List Value -> Shared -> Prop} (hS : SetAt w s.heap S es ep t) (hto : TabOk w es.size t) (hsz : es.size <= sizeLine) (hh : A.handled = none)
    (q : ∀ (g : Heap) (d : Drawn) (tk : Nat) (vs : List Value), (∀ b o, s.heap.get? b = some o -> g.get? b = some o) -> vs.Perm (es.toList.map (·.2)) -> Q vs { s with heap := g, drawn := d, toks := tk }) : wpAny (model prog w) A (collect (.ref S)) Q E s := by
  obtain ⟨o, ho, hex, hd⟩ := hS.ex
  have hSlt := Heap.lt_size ho
  unfold collect
  refine wpAny_bind (wpAny_runValue (codeAny_builtin entry_proto_collect' ?_))
  rw [Around.under_plainId PySem.F.plain_proto_collect _]
  show wpAny _ A.in1 (newList [] >>= fun l => again (.builtin "list.__iadd__" ⟨[l, .ref S], []⟩)) _ _ s
  refine wpAny_bind (wpAny_newObj_type (wpAny_pure ⟨plainId_quiet PySem.F.plain_list_iadd _, codeAny_builtin entry_list_iadd' ?_⟩))
  rw [Around.under_plainId PySem.F.plain_list_iadd _]
  generalize hL : s.heap.objs.size = L
  have gL : (s.heap.push { cls := .type "list", data := .seq ([] : List Value).toArray }).get? L = some { cls := .type "list", data := .seq #[] } := by rw [<- hL]; exact Heap.get?_push_size _ rfl
  have hS1 : SetAt w (s.heap.push { cls := .type "list", data := .seq ([] : List Value).toArray }) S es ep t := hS.keep fun o e => Heap.get?_push_of_some _ e
  have z1 : (s.heap.push { cls := .type "list", data := .seq ([] : List Value).toArray }).objs.size = L + 1 := by rw [Heap.size_push, hL]
  have kp1 : ∀ b o, s.heap.get? b = some o -> (s.heap.push { cls := .type "list", data := .seq ([] : List Value).toArray }).get? b = some o := fun b o e => Heap.get?_push_of_some _ e
  have bL : ∀ b o, s.heap.get? b = some o -> b ≠ L := fun b o e => by rw [<- hL]; exact Nat.ne_of_lt (Heap.lt_size e)
  generalize s.heap.push { cls := .type "list", data := .seq ([] : List Value).toArray } = h1 at gL hS1 z1 kp1 ⊢
  have hne : L ≠ S := by rw [<- hL]; exact Nat.ne_of_gt hSlt
  obtain ⟨o1, ho1, hex1, hd1⟩ := hS1.ex
  have T : Shared.TypeIs { s with heap := h1 } (.ref S) "set" := ⟨o1, ho1, hex1.1⟩
  show wpAny _ A.in1 (Builtin.List.listExtendWith (.ref L) (.ref S) (.ref L)) _ _ _
  unfold Builtin.List.listExtendWith
  refine wpAny_bind (wpAny_typeOf (T := "set") T ?_)
  have e1 : Builtin.List.listSameRef (.ref L) (.ref S) = false := by simp [Builtin.List.listSameRef, hne]
  have e2 : (Value.type "set" == Value.type "list") = false := by decide
  have e3 : (Value.type "set" == Value.type "tuple") = false := by decide
  simp only [e1, e2, e3, Bool.or_false, Bool.false_eq_true, if_false]
  refine wpAny_bind (iter_set (s := { s with heap := h1 }) hS1 hto hsz fun g d it fp P St W st hit hfp hfl kp2 hperm => ?_)
  have gL2 := kp2 _ _ gL
  have hLf : L ∉ fp := fun hm => by
    rcases hfp L hm with y | y
    · exact hne y
    · rw [show Shared.heap { s with heap := h1 } = h1 from rfl, z1] at y; exact absurd y (Nat.not_le.mpr (Nat.lt_succ_self _))
  obtain ⟨o2, ho2, hex2, hd2⟩ := (hS1.keep fun o e => kp2 S o e).ex
  refine wpAny_bind (wpAny_holding (hint_set (s := { s with heap := g, drawn := d }) ⟨o2, ho2, hex2.1⟩ ?_))
  have itL : it ≠ L := fun y => by
    have := hit
    rw [show Shared.heap { s with heap := h1 } = h1 from rfl, z1, y] at this
    exact absurd this (Nat.not_le.mpr (Nat.lt_succ_self _))
  have old : ∀ b o, s.heap.get? b = some o -> b ≠ it := fun b o e y => by
    have h2 := Heap.lt_size (kp1 b o e)
    have h3 := hit
    rw [show Shared.heap { s with heap := h1 } = h1 from rfl] at h3
    rw [y] at h2
    exact absurd h2 (Nat.not_lt.mpr h3)
  have key : ∀ (g' : Heap) (c tk : Nat), St 0 g' -> (∀ b o, b ≠ L -> g.get? b = some o -> g'.get? b = some o) -> g'.get? L = some { cls := .type "list", data := .seq #[] c } ->
      codeAny (model prog w) A (.builtin "list.extend.loop" ⟨[.ref L, .ref it, .ref L], []⟩) (wants (fun r s' => wpAny (model prog w) A (match r with | .ref a => (do match (<- load a).data with | .seq xs _ => pure xs.toList | _ => unsupported "internal:collect") | _ => unsupported "internal:collect") Q E s') E) { s with heap := g', drawn := d, toks := tk } := by
    intro g' c tk st' kp3 gL3
    refine codeAny_extend_loopS (W A.in1 (by simpa using hh)).toS hsz L hLf (.ref L) es.size 0 _ #[] c rfl (Nat.zero_le _) st' gL3 (ItemsOf.nil _) fun s' acc c' hm gL4 hacc => ?_
    have ee : s' = { s with heap := s'.heap, drawn := d, toks := s'.toks } := by
      have h1 := hm.gens
      have h2 := hm.drawn
      have h3 := hm.os
      cases s'
      simp only at h1 h2 h3
      subst h1; subst h2; subst h3; rfl
    refine wpAny_bind (wpAny_load gL4 (wpAny_pure ?_))
    rw [ee]
    refine q s'.heap d s'.toks acc.toList (fun b o e => hm.heap b o (fun y => ?_) (kp3 b o (bL b o e) (kp2 b o (kp1 b o e)))) (hperm acc hacc)
    rcases List.mem_cons.mp y with y | y
    · exact bL b o e y
    · exact old b o e (List.mem_singleton.mp y)
  refine wpAny_ite_split (fun _ => ?_) (fun _ => wpAny_pure ⟨plainId_quiet PySem.F.plain_extend_loop _, key g 0 _ st (fun _ _ _ e => e) gL2⟩)
  refine wpAny_bind (wpAny_rule (wpAny_bind ?_))
  show wpAny _ _ (updateSeq L (·.push .none) >>= fun _ => updateSeq L (·.pop)) _ _ _
  refine wpAny_bind (wpAny_updateSeq gL2 rfl ?_)
  have g5 := Heap.get?_update_self (Obj.mapSeq (·.push Value.none)) gL2 rfl
  refine wpAny_updateSeq (hz := by seq_fits) g5 rfl ?_
  have g6 := Heap.get?_update_self (Obj.mapSeq (·.pop)) g5 rfl
  refine wpAny_pure ⟨plainId_quiet PySem.F.plain_extend_loop _, key _ _ _ ((W A hh).frame 0 _ _ st fun b hb o e => ?_) (fun b o hb e => ?_) g6⟩
  · have hbL : b ≠ L := fun y => hLf (y ▸ hb)
    exact (Heap.get?_update_other _ _ (Ne.symm hbL)).trans ((Heap.get?_update_other _ _ (Ne.symm hbL)).trans e)
  · exact (Heap.get?_update_other _ _ (Ne.symm hb)).trans ((Heap.get?_update_other _ _ (Ne.symm hb)).trans e)
end
end L2
set_option Elab.async false
set_option linter.all false
set_option maxRecDepth 100000
set_option maxHeartbeats 4000000
namespace L2
open PySem PySem.Spec PyProof.Rows
section
variable {prog : Program} {w : World} {A : Around} {E : Value -> Shared -> Prop} {s : Shared}
theorem sorted_set {S : Addr} {ks : List Str} {Q : Value -> Shared -> Prop} (z : SetT prog w s.heap S ks) (few : ks.length < 64) (hh : A.handled = none)
    (q : ∀ (g0 g1 : Heap) (d : Drawn) (tk : Nat) (out : Array Value) (ss : List Str) (e : Nat), (∀ b o, s.heap.get? b = some o -> g0.get? b = some o) -> (∀ b o, g0.get? b = some o -> g1.get? b = some o) -> g1.get? g0.objs.size = some (seqObj "list" out e) ->
      StrsAre out.toList ss -> ss.Perm ks -> sortedS ss = true -> Q (.ref g0.objs.size) { s with heap := g1, drawn := d, toks := tk }) : wpAny (model prog w) A (call (.builtin "sorted") [.ref S]) Q E s := by
  obtain ⟨o, es, ep, t, ho, hex, hd, hel, hp, hb, hf, hto⟩ := z
  have hS : SetAt w s.heap S es ep t := ⟨⟨o, ho, hex, hd⟩, hf⟩
  have hlen : es.size = ks.length := by have := hp.length_eq; simpa using this
  apply Calls.call_function_entry kind_sorted plain_sorted entry_sorted (args_sorted1 _)
  show wpAny _ _ (checkCount "sorted" 1 1 _ >>= _) _ _ _
  refine wpAny_bind (wpAny_pure (wpAny_bind (collect_set hS hto (by rw [sizeLine_eq]; omega) (by simpa using hh) fun g d tk vs kp pv => ?_)))
  have hv : ∀ v ∈ vs, ∃ x t, v = Value.str x t := fun v hv => by
    obtain ⟨e, he, rfl⟩ := List.mem_map.mp (pv.mem_iff.mp hv)
    obtain ⟨t, ht⟩ := elem_str hel e he
    exact ⟨_, t, ht⟩
  have hst := strsAre_map vs hv
  have hks : (vs.map strOf).Perm ks := by
    refine (pv.map strOf).trans ?_
    rw [List.map_map]; exact hp
  have hvl : vs.length < 64 := by have := hks.length_eq; rw [List.length_map] at this; omega
  refine wpAny_bind (wpAny_newList ?_ (by rw [sizeLine_eq]; omega))
  have oL : (g.push (seqObj "list" vs.toArray 0)).get? g.objs.size = some (seqObj "list" vs.toArray 0) := Heap.get?_push_size _ rfl
  refine wpAny_bind (wpAny_holding (wpAny_call_entry slot_list_sort ⟨_, oL, rfl⟩ entry_list_sort (list_sort_treeK strKind_oneLt oL hst.keysOf (fun a b r e => keyKind_strs (by rw [<- e]; exact hst)) hvl fun st a1 a2 => ⟨_, rfl, ?_⟩) (args_list_sort _)))
  obtain ⟨ss, h1, h2, h3⟩ := sorted_out_str hst a1 a2
  obtain ⟨e, he⟩ := sortedHeap_at (out := (arrOf st).map (·.2)) oL
  refine wpAny_pure ⟨_, rfl, q g _ d tk _ ss e kp (fun b o hb => ?_) he h1 (h2.trans hks) h3⟩
  rw [sortedHeap_old (Nat.ne_of_lt (Heap.lt_size hb)) (by rw [Heap.size_push]; exact Nat.lt_succ_of_lt (Heap.lt_size hb))]
  exact Heap.get?_push_of_some _ hb
abbrev siOb (ty : String) (x : Str) (t : Tok) : Obj := { cls := .type ty, data := .fields #[.str x t, .int 0 0] }
theorem set_text {l : List Nat} {t : Tok} {Q : Value -> Shared -> Prop} (hh : A.handled = none) (hb : l.length + 1 < scanBound)
    (q : ∀ g tk, Met prog w (fun j => tx [l.getD j 0]) g s.heap.objs.size l.length -> (∀ b o, s.heap.get? b = some o -> g.get? b = some o) -> Q (.ref s.heap.objs.size) { s with heap := g, toks := tk }) : wpAny (model prog w) A (call (.type "set") [.str (tx l) t]) Q E s := by
  have z : (s.heap.push (newSetOb w)).objs.size = s.heap.objs.size + 1 := Heap.size_push ..
  have hn : (tx l).cps.size = l.length := by simp [tx]
  have hval : ∀ i v, SignAt (tx l) i v -> ∃ t, v = Value.str (tx [l.getD i 0]) t := by
    rintro i v ⟨c, u, hc, rfl⟩
    have : l[i]? = some c := by simpa [tx] using hc
    exact ⟨u, by rw [List.getD_eq_getElem?_getD, this]; rfl⟩
  have hT : Shared.TypeIs { s with heap := s.heap.push (newSetOb w) } (.str (tx l) t) "str" := typeIs_str _ _ _
  rw [<- hn] at hb q
  cases ha : (tx l).cps.all (· < 128)
  · refine call_set_walk (T := "str") (fp := fun it => [it]) (P := SignAt (tx l)) (St := fun it i h => h.IsStrIter it "str_iterator" (tx l) t i) hT (by rw [isSubtype_type]; kernel_rfl) (by rw [isSubtype_type]; kernel_rfl) (by decide)
      (fun A E Q y => wpAny_pyIter_wide ha (by show Q (.ref (s.heap.push (newSetOb w)).objs.size) _; rw [z]; exact y)) (fun A it hA _ => Walks.strWide hA it (tx l) t) (by simp) ⟨siOb "str_iterator" (tx l) t, ?_, rfl, rfl⟩ hval hh hb q
    rw [<- z]; exact Heap.get?_push_size _ rfl
  · refine call_set_walk (T := "str") (fp := fun it => [it]) (P := SignAt (tx l)) (St := fun it i h => h.IsStrIter it "str_ascii_iterator" (tx l) t i) hT (by rw [isSubtype_type]; kernel_rfl) (by rw [isSubtype_type]; kernel_rfl) (by decide)
      (fun A E Q y => wpAny_pyIter_ascii ha (by show Q (.ref (s.heap.push (newSetOb w)).objs.size) _; rw [z]; exact y)) (fun A it hA _ => Walks.strAscii hA it (tx l) t) (by simp) ⟨siOb "str_ascii_iterator" (tx l) t, ?_, rfl, rfl⟩ hval hh hb q
    rw [<- z]; exact Heap.get?_push_size _ rfl
theorem set_tup {l : List Nat} {a : Addr} {its : List Value} {Q : Value -> Shared -> Prop} (hh : A.handled = none) (hb : l.length + 1 < scanBound) (ht : s.heap.IsTuple a its.toArray) (hv : Vals (signsV l) its)
    (q : ∀ g tk, Met prog w (fun j => tx [l.getD j 0]) g s.heap.objs.size l.length -> (∀ b o, s.heap.get? b = some o -> g.get? b = some o) -> Q (.ref s.heap.objs.size) { s with heap := g, toks := tk }) : wpAny (model prog w) A (call (.type "set") [.ref a]) Q E s := by
  have z : (s.heap.push (newSetOb w)).objs.size = s.heap.objs.size + 1 := Heap.size_push ..
  have hn : its.toArray.size = l.length := by have := hv.length; unfold signsV at this; simpa using this.symm
  have ha : a < s.heap.objs.size := by obtain ⟨o, ho, _⟩ := ht; exact Heap.lt_size ho
  have ht1 : (s.heap.push (newSetOb w)).IsTuple a its.toArray := ht.at fun o e => Heap.get?_push_of_some _ e
  have hval : ∀ i v, its.toArray[i]? = some v -> ∃ t, v = Value.str (tx [l.getD i 0]) t := by
    intro i v hi
    have hi' : its[i]? = some v := by simpa using hi
    have hlt : i < l.length := by
      have := (List.getElem?_eq_some_iff.mp hi').1
      rw [<- hn]; simpa using this
    have hx : (signsV l)[i]? = some (.str (tx [l.getD i 0])) := by
      unfold signsV
      rw [List.getElem?_map, List.getElem?_eq_getElem hlt, List.getD_eq_getElem?_getD, List.getElem?_eq_getElem hlt]; rfl
    obtain ⟨u, hu, t, e⟩ := hv.get hx
    rw [hi'] at hu
    exact ⟨t, (Option.some.inj hu).trans e⟩
  rw [<- hn] at hb q
  refine call_set_walk (T := "tuple") (fp := fun it => [it, a]) (P := fun i v => its.toArray[i]? = some v) (St := fun it i h => h.IsTupleIter it a i /\ h.IsTuple a its.toArray) ht1.typeIs (by rw [isSubtype_type]; kernel_rfl) (by rw [isSubtype_type]; kernel_rfl) (by decide)
    (fun A E Q y => wpAny_pyIter_tuple ht1 (by show Q (.ref (s.heap.push (newSetOb w)).objs.size) _; rw [z]; exact y)) (fun A it hA e => Walks.tuple hA it a (by rw [e]; exact Nat.ne_of_lt (Nat.lt_succ_of_lt ha)) its.toArray) (by simp; exact fun e => absurd ha (by rw [<- e]; exact Nat.lt_irrefl _)) ⟨⟨{ cls := .type "tuple_iterator", data := .fields #[.ref a, .int 0 0] }, ?_, rfl, rfl⟩, ?_⟩ hval hh hb q
  · rw [<- z]; exact Heap.get?_push_size _ rfl
  · exact ht1.at fun o e => Heap.get?_push_of_some _ e
end
theorem met_out {l : List Nat} {ss ks : List Str} (hp : ss.Perm ks) (hnd : ks.Nodup) (hm : ∀ x, x ∈ ks ↔ ∃ j, j < l.length /\ tx [l.getD j 0] = x) (hs : sortedS ss = true) :
    ∃ m : List Nat, ss = m.map (fun c => tx [c]) /\ m.Nodup /\ m.Pairwise (· <= ·) /\ ∀ c, c ∈ m ↔ c ∈ l := by
  have all : ∀ z ∈ ss, tx [z.cps.toList.headD 0] = z := fun z hz => by
    obtain ⟨j, _, e⟩ := (hm z).mp (hp.mem_iff.mp hz)
    subst e; rfl
  have em : ss = (ss.map fun z => z.cps.toList.headD 0).map fun c => tx [c] := by
    rw [List.map_map]
    conv => lhs; rw [<- List.map_id ss]
    exact List.map_congr_left fun z hz => (all z hz).symm
  refine ⟨ss.map fun z => z.cps.toList.headD 0, em, ?_, ?_, fun c => ?_⟩
  · have nd : ss.Nodup := hp.nodup_iff.mpr hnd
    rw [em] at nd
    exact List.Pairwise.of_map (fun c => tx [c]) (fun a b h e => h (by rw [e])) nd
  · refine ones_sorted _ ?_
    rw [List.map_map]
    rw [em] at hs
    exact hs
  · constructor
    · intro hc
      obtain ⟨z, hz, rfl⟩ := List.mem_map.mp hc
      obtain ⟨j, hj, e⟩ := (hm z).mp (hp.mem_iff.mp hz)
      subst e
      show l.getD j 0 ∈ l
      rw [List.getD_eq_getElem?_getD, List.getElem?_eq_getElem hj]
      exact List.getElem_mem hj
    · intro hc
      obtain ⟨j, hj, e⟩ := List.getElem_of_mem hc
      refine List.mem_map.mpr ⟨tx [c], hp.mem_iff.mpr ((hm _).mpr ⟨j, hj, ?_⟩), rfl⟩
      rw [List.getD_eq_getElem?_getD, List.getElem?_eq_getElem hj, e]; rfl
def SignsOf (K : PySem.W.Frag) (H : Hp) (v : V) (l : List Nat) : Prop := v = .str (tx l) \/ ∃ a, v = .ref a /\ SqT K H a (signsV l)
def tSortSet (K : PySem.W.Frag) (te : TE) : TE := fun σ H Q => te σ H fun v H1 => ∃ l, SignsOf K H1 v l /\ l.length < 4000 /\ (∀ m : List Nat, m.Nodup -> (∀ c ∈ m, c ∈ l) -> m.length < 64) /\
  ∀ m : List Nat, m.Nodup -> m.Pairwise (· <= ·) -> (∀ c, c ∈ m ↔ c ∈ l) -> ∀ a H2, H1 a = none -> H2 = upd H1 a (.lst (m.map fun c => V.str (tx [c]))) -> Q (.ref a) H2
theorem Inv.kept2 {X : Cx} {pins : List (Addr × Obj)} {σ : St} {H : Hp} {s : Shared} {h' : Heap} {t' : Nat} {d' : Drawn} (I : Inv X pins σ H s) (k : ∀ b o, s.heap.get? b = some o -> h'.get? b = some o) : Inv X pins σ H { s with heap := h', drawn := d', toks := t' } :=
  I.step (g' := s.gens) (ch := []) (fun _ z => nomatch z) (fun b o _ _ _ e _ => k b o e) (fun b o _ _ _ e _ => ⟨o.slots, k b o e⟩) (fun _ _ _ _ n => n) (fun b o _ e => ⟨o, k b o e⟩) (fun _ _ e => e) (fun _ _ _ e => e) (fun b ps e => ⟨#[], by rw [e]; simp⟩)
    (fun m hm => let ⟨o, es, ep, ho, r⟩ := hm; ⟨o, es, ep, k _ o ho, r⟩) (I.hok.kept k) I.bare
theorem q_sortSet {X : Cx} {p1 p2 pos1 pos2 : Pos} {e : Expr} {te : TE} (h1 : X.mg "sorted" = none) (h3 : X.mg "set" = none) (he : QE X e te) (hc : X.calm = true := by rfl)
    (hg1 : Gl X "sorted" := by rfl) (hg2 : Gl X "set" := by rfl) (hse : starEach [e] X.env = (false, eval e X.env) :: starEach [] X.env := by rfl) : QE X (.Call (.Name "sorted" p1) [.Call (.Name "set" p2) [e] [] pos2] [] pos1) (tSortSet X.K te) := ⟨by
  intro pins s σ H Q I h
  refine wpAny_Call_Name_kw (ld_blt I hg1 h1 PyProof.Rows.boot_sorted (PyProof.Rows.callWith_builtin1 ?_) (by decide) (by decide))
  show wpAny _ _ (spliced ((false, eval (.Call (.Name "set" p2) [e] [] pos2) X.env) :: [])) _ _ s
  refine Calls.spliced_cons (wpAny_Call_Name_kw (ld_blt I hg2 h3 PyProof.Rows.boot_set (PyProof.Rows.callWith_type1 ?_ hse rfl) (by decide) (by decide)))
  rw [hse]
  show wpAny _ _ (spliced ((false, eval e X.env) :: [])) _ _ s
  refine Calls.spliced_cons (thn (he.h pins s σ H _ I h) fun u s1 ⟨v, H1, I1, r1, l, hl, hb, few, q⟩ => Calls.spliced_nil ?_)
  have hh : X.A.handled = none := I1.ok.hd hc
  have hb' : l.length + 1 < scanBound := by unfold scanBound; omega
  have fin : ∀ g tk, Met X.prog X.w (fun j => tx [l.getD j 0]) g s1.heap.objs.size l.length -> (∀ b o, s1.heap.get? b = some o -> g.get? b = some o) ->
      wpAny (model X.prog X.w) X.A (spliced []) (fun vs s₂ => wpAny (model X.prog X.w) X.A (call (.builtin "sorted") (.ref s1.heap.objs.size :: vs)) (EP X pins σ Q) X.xe s₂) X.xe { s1 with heap := g, toks := tk } := fun g tk hM kp => by
    refine Calls.spliced_nil ?_
    obtain ⟨ks, z, nd, mem, len⟩ := hM
    have hfew : ks.length < 64 := by
      obtain ⟨m, em, mn, _, mm⟩ : ∃ m : List Nat, ks = m.map (fun c => tx [c]) /\ m.Nodup /\ True /\ ∀ c ∈ m, c ∈ l := by
        have all : ∀ z ∈ ks, tx [z.cps.toList.headD 0] = z := fun z hz => by
          obtain ⟨j, _, e⟩ := (mem z).mp hz
          subst e; rfl
        have em : ks = (ks.map fun z => z.cps.toList.headD 0).map fun c => tx [c] := by
          rw [List.map_map]
          conv => lhs; rw [<- List.map_id ks]
          exact List.map_congr_left fun z hz => (all z hz).symm
        refine ⟨_, em, ?_, trivial, fun c hc => ?_⟩
        · have nd' := nd
          rw [em] at nd'
          exact List.Pairwise.of_map (fun c => tx [c]) (fun a b h e => h (by rw [e])) nd'
        · obtain ⟨z, hz, rfl⟩ := List.mem_map.mp hc
          obtain ⟨j, hj, e⟩ := (mem z).mp hz
          subst e
          show l.getD j 0 ∈ l
          rw [List.getD_eq_getElem?_getD, List.getElem?_eq_getElem hj]
          exact List.getElem_mem hj
      rw [em, List.length_map]
      exact few m mn mm
    refine sorted_set z hfew hh fun g0 g1 d tk' out ss ep k0 k1 gL hst hperm hsrt => ?_
    obtain ⟨m, em, mn, mp, mm⟩ := met_out hperm nd mem hsrt
    have I2 : Inv X pins σ H1 { s1 with heap := g0, drawn := d, toks := tk' } := I1.kept2 fun b o e => k0 b o (kp b o e)
    have hfr : H1 g0.objs.size = none := I2.hok.fresh (Nat.le_refl _)
    have hvals : Vals (m.map fun c => V.str (tx [c])) out.toList := by
      have e := of_strsAre hst
      rw [em, List.map_map] at e
      exact e
    refine ⟨.ref g0.objs.size, _, I2.laid (o := .lst (m.map fun c => V.str (tx [c]))) (t' := tk') k1 (Nat.le_refl _) ?_, rfl, q m mn mp mm _ _ hfr rfl⟩
    refine ⟨?_, out.toList, ep, hvals, gL⟩
    rw [List.length_map]
    exact Nat.le_trans (Nat.le_of_lt (few m mn fun c hc => (mm c).mp hc)) (by decide)
  rcases hl with rfl | ⟨a, rfl, hT⟩
  · obtain ⟨t, rfl⟩ := r1
    exact set_text hh hb' fin
  · cases r1
    obtain ⟨its, rv, ht, _⟩ := I1.tuple hT
    exact set_tup hh hb' ht rv fin⟩
end L2
set_option Elab.async false
set_option linter.all false
set_option maxRecDepth 100000
set_option maxHeartbeats 4000000
namespace L2
open PySem PySem.Spec PyProof.Rows
def rAll (K : PySem.W.Frag) : List V -> Hp -> VK -> Prop := fun xs H Q => ∃ (p : Addr) (bs : List Bool), xs = [.ref p] /\ SqL K H p (bs.map V.bl) /\ Q (.bl (bs.all id)) H
theorem c_all {X : Cx} (hc : X.calm = true := by rfl) : RCall X (.builtin "all") (rAll X.K) := ⟨by
  intro pins s σ H xs us Q I r h
  obtain ⟨p, bs, rfl, hS, q⟩ := h
  obtain ⟨u, rfl, ru⟩ := vals1 r
  cases ru
  obtain ⟨its, rv, pl, hz⟩ := I.list hS
  have hh := I.ok.hd hc
  have hl : s.heap.IsList p its.toArray := pl.isList
  have hlt : p < s.heap.objs.size := by obtain ⟨o, ho, _⟩ := hl; exact Heap.lt_size ho
  have hlen : its.toArray.size = bs.length := by have := rv.length; rw [List.length_map] at this; simpa using this.symm
  refine call_all_walk (wpAny_pyIter_list hl ?_)
  refine ⟨_, _, _, _, _, _, fun i => bs.getD i true, rfl, Walks.list (A := X.A.in1) (by simpa using hh) _ p (Nat.ne_of_lt hlt) its.toArray, ⟨⟨_, Heap.get?_push_size _ rfl, rfl, rfl⟩, hl.at fun o e => Heap.get?_push_of_some _ e⟩, ?_, fun h' tk kp => ?_⟩
  · intro i v s Q E hP hQ
    have hi : its[i]? = some v := by simpa using hP
    have hlt : i < bs.length := by
      have := (List.getElem?_eq_some_iff.mp hi).1
      rw [<- hlen]; simpa using this
    have hx : (bs.map V.bl)[i]? = some (.bl bs[i]) := by rw [List.getElem?_map, List.getElem?_eq_getElem hlt]; rfl
    obtain ⟨u, hu, ru⟩ := rv.get hx
    rw [hi] at hu
    obtain rfl : v = .bool bs[i] := (Option.some.inj hu).trans ru
    refine wpAny_truthy_bool ?_
    have e : bs.getD i true = bs[i] := by rw [List.getD_eq_getElem?_getD, List.getElem?_eq_getElem hlt]; rfl
    rw [<- e]; exact hQ
  · have e : (List.range its.toArray.size).all (fun i => bs.getD i true) = bs.all id := by
      rw [hlen]
      conv => rhs; rw [<- range_getD bs true]
      rw [List.all_map]; rfl
    rw [e]
    refine ⟨.bl _, H, I.kept (t' := tk) fun b o eb => kp b o (fun hm => ?_) (Heap.get?_push_of_some _ eb), rfl, q⟩
    rw [List.mem_singleton] at hm
    exact absurd (Heap.lt_size eb) (by rw [hm]; exact Nat.lt_irrefl _)⟩
end L2
set_option Elab.async false
set_option linter.all false
set_option maxRecDepth 100000
set_option maxHeartbeats 4000000
namespace L2
open PySem PySem.Spec PyProof.Rows
def IsRevS (h : Heap) (it : Addr) (x : Str) (t : Tok) (i : Int) : Prop := ∃ o, h.get? it = some o /\ o.cls = .type "reversed" /\ o.data = .fields #[.str x t, rawInt i]
theorem IsRevS.typeIs {s : Shared} {a : Addr} {x : Str} {t : Tok} {i : Int} (z : IsRevS s.heap a x t i) : s.TypeIs (.ref a) "reversed" := let ⟨o, ho, hc, _⟩ := z; ⟨o, ho, hc⟩
theorem IsRevS.keep {h h' : Heap} {a : Addr} {x : Str} {t : Tok} {i : Int} (z : IsRevS h a x t i) (e : ∀ o, h.get? a = some o -> h'.get? a = some o) : IsRevS h' a x t i := let ⟨o, ho, r⟩ := z; ⟨o, e _ ho, r⟩
section
variable {prog : Program} {w : World} {A : Around} {E : Value -> Shared -> Prop} {s : Shared}
end
end L2
set_option Elab.async false
set_option linter.all false
set_option maxRecDepth 100000
set_option maxHeartbeats 4000000
namespace L2
open PySem PySem.Spec PyProof.Rows
theorem size_down (a b : Int) : Builtin.Range.rangeSize a b (-1) = ((a - b).toNat : Int) := by
  unfold Builtin.Range.rangeSize
  rw [if_neg (by decide)]
  simp only [Int.neg_neg, Int.ediv_one]
  split <;> omega
theorem small_down {a b : Int} (h1 : -(2 ^ 60) <= a) (h2 : a < 2 ^ 60) (h3 : -(2 ^ 60) <= b) (h4 : b < 2 ^ 60) : Builtin.Range.small a b (-1) = true := by
  unfold Builtin.Range.small
  rw [size_down]
  simp only [Builtin.Range.rangeFitsLong, Bool.and_eq_true, Bool.or_eq_true, decide_eq_true_eq, beq_iff_eq, if_neg (show ¬ ((-1 : Int) > 0) by decide)]
  omega
def downV (i : Int) (n : Nat) : List V := (List.range n).map fun k : Nat => V.int (i - k)
def iRngD (ta : TA) : TI := fun σ H R => ta σ H fun vs H1 => ∃ i j : Int, vs = [.int i, .int j, .int (-1)] /\ (-(2 ^ 60) <= i /\ i < 2 ^ 60 /\ -(2 ^ 60) <= j /\ j < 2 ^ 60) /\ R (Itv (downV i (i - j).toNat)) H1
theorem qi_rangeDown {X : Cx} {tg a b c : Expr} {ta : TA} {p pos : Pos} (hm : X.mg "range" = none) (ha : QA X [a, b, c] ta) (hg : Gl X "range" := by rfl) (hs : starEach [a, b, c] X.env = (false, eval a X.env) :: starEach [b, c] X.env := by rfl)
    (hs2 : (backTo pos (starEach [b, c] X.env)).any (·.1) = false := by rfl) : QI X tg (.Call (.Name "range" p) [a, b, c] [] pos) (iRngD ta) := ⟨by
  intro pins s σ H R I h
  refine Call_ (ld_blt I hg hm boot_range (PyProof.Rows.callWith_type1 (thn (ha.h pos pins s σ H _ I h) fun us s1 ⟨vs, H1, I1, r1, q1⟩ => ?_) hs hs2))
  obtain ⟨i, j, e, ⟨b1, b2, b3, b4⟩, q⟩ := q1
  subst e
  cases r1 with
  | cons x1 r1 => cases r1 with
    | cons x2 r1 => cases r1 with
      | cons x3 r1 =>
        cases r1
        obtain ⟨t1, rfl⟩ := x1
        obtain ⟨t2, rfl⟩ := x2
        obtain ⟨t3, rfl⟩ := x3
        refine call_range_3 (by decide) ?_ (Or.inl (PyProof.noPylong_small (by omega)))
        refine wpAny_pyIter_range (IsRange.new ..) (small_down b1 b2 b3 b4) ?_
        generalize hN : (i - j).toNat = n at q
        have hl : (downV i n).length = n := by unfold downV; simp
        have I2 : Inv X pins σ H1 { s1 with heap := s1.heap.push { cls := .type "range", data := .fields #[.int i t1, .int j t2, .int (-1) t3] }, toks := s1.toks } := I1.kept fun b o e => Heap.get?_push_of_some _ e
        refine ⟨(s1.heap.push { cls := .type "range", data := .fields #[.int i t1, .int j t2, .int (-1) t3] }).objs.size, [(s1.heap.push { cls := .type "range", data := .fields #[.int i t1, .int j t2, .int (-1) t3] }).objs.size], _, _, H1, rfl,
          I2.kept (t' := s1.toks) fun b o e => Heap.get?_push_of_some _ e, turn_walks (ty := "range_iterator") (fun A hA => by rw [hl]; exact Walks.range hA _ i (-1) n) (fun k v hk hp => ?_) (fun k h st => ⟨_, _, st, rfl, rfl⟩) (by decide) (fun A k s Q E st h => wpAny_pyIter_rangeiter st h), ⟨Nat.zero_le _, ?_⟩, fun b hb => ?_, q⟩
        · obtain ⟨t, rfl⟩ := hp
          rw [hl] at hk
          refine ⟨.int (i + k * (-1)), ?_, t, rfl⟩
          unfold downV
          rw [List.getElem?_map, List.getElem?_range hk]
          show some (V.int (i - k)) = _
          congr 2; omega
        · have e1 : i + ((0 : Nat) : Int) * (-1) = i := by simp
          have e2 : ((n : Nat) : Int) - ((0 : Nat) : Int) = Builtin.Range.rangeSize i j (-1) := by rw [size_down, hN]; simp
          rw [e1, e2]
          exact Heap.get?_push_size _ rfl
        · have e : b = (s1.heap.push { cls := .type "range", data := .fields #[.int i t1, .int j t2, .int (-1) t3] }).objs.size := by simpa using hb
          subst e
          exact I2.fpOk (Nat.le_refl _) (I2.hok.fresh (Nat.le_refl _))⟩
end L2
set_option Elab.async false
set_option linter.all false
set_option maxRecDepth 100000
set_option maxHeartbeats 4000000
namespace L2
open PySem PySem.Spec PyProof.Rows
section
variable {X : Cx} {elt tg iter : Expr} {ifs : List Expr} {scope : Scope} {pos : Pos} {nm : List Str} {cl : List (Str × Addr)} {cap : List (Option Nat)} {wi : TI} {g : TG} {tc : TT} {te : TE}
theorem ps_setComp {x0 : Str} {p0 p1 : Pos} {gx : TG} (hgx : PG X (.Name x0 p0) gx) (hsw : swapsWith (.ListComp elt [⟨tg, iter, ifs, 0⟩] scope pos) (some (.Name x0 p0)) p1.line X.env = pure true) (hcalm : X.calm = true) (hclos : closureFor scope X.env = pure cl) (hcl : ∀ x c, cl.lookup x = some c -> X.env.cells.lookup x = some c)
    (hkind : scope.kind = .function) (hnames : ∀ x ∈ scope.names, x.2 = .local -> scope.names.lookup x.1 = some .local) (hcell : ∀ y ∈ scope.names, y.2 ≠ .cell)
    (hhas : ∀ x, ((relabel scope X.env).names.lookup x = some .cell \/ (relabel scope X.env).names.lookup x = some .free) -> ∃ c, cl.lookup x = some c)
    (hcap : ∀ (i j : Nat), cap[i]? = some (some j) -> ∃ x, nm[i]? = some x /\ X.N[j]? = some x /\ CapOk X scope cl x) (hlen : cap.length = nm.length)
    (hi : PI X tg iter wi) (hg : ∀ C s0 H0 fp, PG (cxComp X nm scope cl C s0 H0 fp) tg g) (ht : ∀ C s0 H0 fp, PTs (cxComp X nm scope cl C s0 H0 fp) ifs tc)
    (he : ∀ C s0 H0 fp, PE (cxComp X nm scope cl C s0 H0 fp) elt te) (hs : ∀ x, foldedSetIterable iter X.env x = pure x := by intro _; rfl) :
    PS X (.Assign [.Name x0 p0] (.ListComp elt [⟨tg, iter, ifs, 0⟩] scope pos) p1) (tAsg (tComp cap wi g tc te) gx) := by
  intro pins s σ H D I h
  rw [exec_Assign_Name_used _ _ _ _ hsw]
  suffices main : wpAny (model X.prog X.w) X.A (comprehension (.ListComp elt [⟨tg, iter, ifs, 0⟩] scope pos) scope X.env (firstIterPos [⟨tg, iter, ifs, 0⟩] pos) (newList []) (firstAsync [⟨tg, iter, ifs, 0⟩]) (firstIter [⟨tg, iter, ifs, 0⟩] X.env) (some (assign (.Name x0 p0) X.env))) (fun _ s' => SP X pins D .next s') X.xe s from
    wpAny_bind (wpAny_standAt (wpAny_bind (wpAny_bind (wpAny_mono main (fun _ s' h => wpAny_pure (wpAny_pure h)) fun _ _ z => z))))
  refine wpAny_comprehension_free (use := some (assign (.Name x0 p0) X.env)) rfl hs hclos hkind hnames (thn (hi pins s σ H _ I h) fun v s1 h1 => thn h1 fun itv s2 h2 => ?_)
  obtain ⟨it, fp, tn, J, H1, e, I2, T, st2, f2, W, ⟨m0, w0⟩, turn⟩ := h2
  subst e
  have hfpn : ∀ b ∈ fp, b < s2.heap.objs.size := fun b hb => let ⟨o, ho, _⟩ := T.obj _ _ st2 b hb; Heap.lt_size ho
  have hfpc : ∀ b ∈ fp, ∀ x c, X.env.cells.lookup x = some c -> c ≠ b := fun b hb => (f2 b hb).2.2.2.2.1
  refine wpAny_newObj_type (wpAny_newFunctionEnv hcell (by intro y hy; simp at hy) (fun h₁ hns₁ hsb₁ => ?_) hkind)
  dsimp only at hns₁ hsb₁ ⊢
  generalize hH2 : s2.heap.push { cls := .type "list", dict := none, data := .seq ([] : List Value).toArray } = G2 at hns₁ hsb₁ ⊢
  have hC : G2.objs.size = s2.heap.objs.size + 1 := by rw [<- hH2, Heap.size_push]
  have hDC : s2.heap.objs.size ≠ G2.objs.size := by rw [hC]; exact Nat.ne_of_lt (Nat.lt_succ_self _)
  have old : ∀ b o, s2.heap.get? b = some o -> h₁.get? b = some o := fun b o e => hsb₁.extBut b o (by rw [hC]; exact Nat.ne_of_lt (Nat.lt_succ_of_lt (Heap.lt_size e))) (Heap.get?_push_of_some _ (hH2 ▸ Heap.get?_push_of_some _ e))
  have hacc : h₁.get? s2.heap.objs.size = some { cls := .type "list", data := .seq ([] : List Value).toArray } := hsb₁.extBut _ _ hDC (Heap.get?_push_of_some _ (hH2 ▸ Heap.get?_push_size _ rfl))
  have okB : (cxComp X nm scope cl G2.objs.size s2 H1 fp).Ok := by
    refine ⟨I2.ok.mod, hkind, I2.ok.glob, I2.ok.blt, by show s2.heap.objs.size <= G2.objs.size; omega, fun x y c h1 h2 => I2.ok.inj x y c (hcl _ _ h1) (hcl _ _ h2), fun x hx => hhas x hx, fun x c h0 => (by cases h0), fun hc => I2.ok.hd hcalm, I2.ok.frames, .inl rfl, ?_, ?_, ?_, ?_, ?_, ?_, ?_⟩
    · intro b hb
      exact ⟨Nat.ne_of_lt (Nat.lt_of_lt_of_le (hfpn b hb) (by show _ <= G2.objs.size; omega)), fun x c hx => hfpc b hb x c (hcl _ _ hx)⟩
    · exact fun b o hb => I2.bs b o hb
    · exact Nat.le_trans I2.ok.bsz I2.sz
    · intro b o hb z
      rcases (f2 b z).2.2.2.1 with q | q
      · exact I2.ok.noex b o hb q
      · exact absurd (Heap.lt_size (I2.ok.bs b o hb).1) (Nat.not_lt.mpr q)
    · intro b hb z
      rcases List.mem_cons.mp (I2.stkSub b z) with q | q
      · exact (f2 b hb).2.1 q
      · exact (f2 b hb).2.2.1 q
    · exact I2.stack
    · exact I2.stkFree
  have I4 : Inv (cxComp X nm scope cl G2.objs.size s2 H1 fp) [] (capSt cap σ) H1 { s2 with heap := h₁, toks := s2.toks + ([] : List (Str × Value)).length } := by
    refine recap hcap hlen I2 hfpc (σ2 := List.replicate nm.length none) ⟨okB, rfl, I2.bare, Un.kept old, ⟨_, hns₁, fun i x v _ e2 => ?_⟩, fun x c hx => ?_, ?_, fun x c hx => I2.freeC x c (hcl _ _ hx), fun p hp => absurd hp (by simp), I2.hok.kept old, by simp⟩
    · rw [List.getElem?_replicate] at e2; split at e2 <;> cases e2
    · obtain ⟨v, hv⟩ := I2.cell x c (hcl _ _ hx)
      exact ⟨v, hv.keeps old⟩
    · exact I2.hok.fresh (by show _ <= G2.objs.size; omega)
  have hsz0 : ∀ {Hx : Hp} {sx : Shared} {px : List (Addr × Obj)} {σx : St}, Inv (cxComp X nm scope cl G2.objs.size s2 H1 fp) px σx Hx sx -> Hx s2.heap.objs.size = none -> ∀ {oa : Obj}, sx.heap.get? s2.heap.objs.size = some oa -> (∀ v, oa.data ≠ .cell v) ->
      Inv (cxComp X nm scope cl G2.objs.size s2 H1 fp) [(s2.heap.objs.size, oa)] σx Hx sx := fun {Hx sx px σx} Ix hn {oa} ho hd => Ix.pins_of fun p hp => by
    have e : p = (s2.heap.objs.size, oa) := by simpa using hp
    subst e
    exact ⟨ho, hn, hDC, fun z => by
      obtain ⟨_, o, q, _⟩ := I2.stack.mem z
      exact absurd (Heap.lt_size q) (Nat.lt_irrefl _), hd⟩
  have hfpB : ∀ {Hx : Hp} {oa : Obj}, (∀ b ∈ fp, Hx b = none) -> ∀ b ∈ fp, FpOk (cxComp X nm scope cl G2.objs.size s2 H1 fp) [(s2.heap.objs.size, oa)] Hx b := fun {Hx oa} hn b hb =>
    ⟨hn b hb, (okB.exf b hb).1, okB.exfs b hb, .inl hb, (okB.exf b hb).2, fun p hp => by
      have e : p = (s2.heap.objs.size, oa) := by simpa using hp
      subst e
      exact Nat.ne_of_gt (hfpn b hb)⟩
  have hcalmB : (cxComp X nm scope cl G2.objs.size s2 H1 fp).calm = true := hcalm
  have loop : ∀ sx : Shared, sx = { s2 with heap := h₁, toks := s2.toks + ([] : List (Str × Value)).length } ->
      codeAny (model X.prog X.w) X.A (.compLoop (.ListComp elt [⟨tg, iter, ifs, 0⟩] scope pos) 0 (.ref it) (.ref s2.heap.objs.size) (compEnvC scope cl G2.objs.size X.env))
        (compPost (model X.prog X.w) X.A X.xe (some (assign (.Name x0 p0) X.env)) (fun _ s' => SP X pins D .next s') (.ref s2.heap.objs.size) G2.objs.size) sx := by
    rintro sx rfl
    refine codeAny_loop rfl (fun n s' => ∃ i ys H', Inv (cxComp X nm scope cl G2.objs.size s2 H1 fp) [] (capSt cap σ) H' s' /\ tn i s'.heap /\ (∀ b ∈ fp, H' b = none) /\ H' s2.heap.objs.size = none /\
      (∃ its k, Vals ys its /\ s'.heap.get? s2.heap.objs.size = some { cls := .type "list", data := .seq its.toArray k }) /\ W i n ys H') ?_ m0
      ⟨0, [], H1, I4, T.keep _ _ _ st2 (fun b _ o e => old b o e), fun b hb => (f2 b hb).1, I2.fresh, ⟨[], 0, .nil, hacc⟩, w0⟩
    rintro n s3 ⟨i, ys, H3, I3, st3, fr3, na3, ⟨its, ka, rv, ea⟩, w3⟩
    show wpAny _ X.A ((compTurn (.ListComp elt [⟨tg, iter, ifs, 0⟩] scope pos) 0 (.ref it) (.ref s2.heap.objs.size) (compEnvC scope cl G2.objs.size X.env)).onRaise (fun x => do noteFrame x (compEnvC scope cl G2.objs.size X.env); theTreesLotGoes x)) _ _ s3
    refine wpAny_noted ?_
    rw [compTurn_list]
    refine wpAny_bind (wpAny_standAt ?_)
    have I3p := hsz0 I3 na3 ea (fun v z => by cases z)
    rcases turn i n ys H3 w3 with ⟨stop, hz, qn⟩ | ⟨go, step⟩
    · refine wpAny_bind (wpAny_mono (T.done (cxComp X nm scope cl G2.objs.size s2 H1 fp) rfl rfl rfl hcalmB i _ s3 _ H3 (fun _ _ => False) I3p (hfpB fr3) st3 stop) (fun r s4 hr => ?_) fun _ _ z => z.elim)
      obtain ⟨hr, I4'⟩ := hr
      subst hr
      refine wpAny_pure ?_
      obtain ⟨m4, hn4, _⟩ := id I4'.loc
      have pa := I4'.pin (s2.heap.objs.size, { cls := .type "list", data := .seq its.toArray ka }) (by simp)
      have ne : ∀ b o, s2.heap.get? b = some o -> b ≠ s2.heap.objs.size /\ b ≠ G2.objs.size := fun b o e => ⟨Nat.ne_of_lt (Heap.lt_size e), Nat.ne_of_lt (by rw [hC]; exact Nat.lt_succ_of_lt (Heap.lt_size e))⟩
      have I5 : Inv X pins σ (upd H3 s2.heap.objs.size (.lst ys)) s4 := by
        refine I2.call' (ch := fp) I4'.os ⟨fun b o e n hb hx => ?_, fun b o e n hb hx => ?_, fun b o e n hx => ?_, fun b o e hx => ?_, fun b xs e => ?_, fun b o u e => ?_, fun b ps e => ?_⟩ ?_ I4'.bare fun b hb => ?_
        · exact I4'.base.keep b o e n hb hx
        · exact I4'.base.slot b o e n hb hx
        · rw [upd_ne (ne b o e).1]; exact I4'.base.free b o e n hx
        · exact I4'.base.there b o e hx
        · have q := I4'.base.tups b xs e
          rw [upd_ne (ne_of_none q na3)]; exact q
        · have q := I4'.base.frzs b o u e
          rw [upd_ne (ne_of_none q na3)]; exact q
        · obtain ⟨mr, q⟩ := I4'.base.tbls b ps e
          exact ⟨mr, by rw [upd_ne (ne_of_none q na3)]; exact q⟩
        · intro b o e
          by_cases hb : b = s2.heap.objs.size
          · subst hb
            rw [upd_same] at e; cases e
            exact ⟨hz, its, ka, rv, pa.1⟩
          · rw [upd_ne hb] at e
            exact (I4'.hok b o e).stay (fun c u hc q => q) (fun c q => by rw [upd_ne (ne_of_none q na3)]; exact q) fun c xs q => by rw [upd_ne (ne_of_none q na3)]; exact q
        · obtain ⟨_, g1, _, g3, g4, g5⟩ := f2 b hb
          exact ⟨g3, g1, g4, g5⟩
      obtain ⟨oC, es, ep, hoC, hdC, hrC⟩ := hn4
      have fr : H3 G2.objs.size = none := I4'.free
      have lC : s2.heap.objs.size <= G2.objs.size := by rw [hC]; exact Nat.le_succ _
      have neL : G2.objs.size ≠ X.env.locals := Nat.ne_of_gt (Nat.lt_of_lt_of_le I2.lt lC)
      have I5p : Inv X (pins ++ [(G2.objs.size, oC)]) σ (upd H3 s2.heap.objs.size (.lst ys)) s4 := I5.pins_of fun p hp => by
        rcases List.mem_append.mp hp with z | z
        · exact I5.pin p (List.mem_append_right _ z)
        · have e : p = (G2.objs.size, oC) := by simpa using z
          subst e
          exact ⟨hoC, by rw [upd_ne (Ne.symm hDC)]; exact fr, neL, I2.nofs lC, fun v z => by rw [hdC] at z; cases z⟩
      refine wpAny_mono (hgx _ s4 σ _ (.ref s2.heap.objs.size) (.ref s2.heap.objs.size) _ I5p rfl (qn _ na3)) (fun _ s5 h5 => ?_) fun _ _ z => z
      obtain ⟨σ', H', I6, nx⟩ := h5
      have pC := I6.pin (G2.objs.size, oC) (List.mem_append_right _ (List.mem_append_right _ (List.mem_singleton.mpr rfl)))
      have I7 : Inv X pins σ' H' s5 := I6.pins_of fun p hp => I6.pin p (List.mem_append_right _ (List.mem_append_left _ hp))
      refine ⟨m4, ⟨oC, es, ep, pC.1, hdC, hrC⟩, fun h' hs' => ?_⟩
      refine ⟨σ', H', I7.turned (t' := s5.toks) (it := G2.objs.size) (fun b o hb e => hs'.extBut b o hb e) pC.2.1 neL (.inr (Nat.le_trans I2.sz lC)) (fun x c hx z => ?_) (fun p hp z => ?_), nx⟩
      · obtain ⟨v, o, ho, _⟩ := I2.cell x c hx
        exact absurd (Heap.lt_size ho) (by rw [z]; exact Nat.not_lt.mpr lC)
      · have := (I2.pin p hp).1
        exact absurd (Heap.lt_size this) (by rw [z]; exact Nat.not_lt.mpr lC)
    · refine wpAny_bind (wpAny_mono (T.item (cxComp X nm scope cl G2.objs.size s2 H1 fp) rfl rfl rfl hcalmB i _ s3 _ H3 (fun _ _ => False) I3p (hfpB fr3) st3 go) (fun r s4 hr => ?_) fun _ _ z => z.elim)
      obtain ⟨u, hr, h4⟩ := hr
      subst hr
      dsimp only
      refine wpAny_bind (wpAny_mono h4 (fun _ s5 h5 => ?_) fun _ _ z => z.elim)
      obtain ⟨x, H5, I5, r5, y5, st5, fr5⟩ := h5
      have I5' := I5.pinned (hfpB fr5) (T.obj _ _ st5)
      refine wpAny_bind (wpAny_mono (hg _ _ _ _ _ s5 _ H5 x u _ I5' r5 (step x H5 y5)) (fun _ s6 h6 => ?_) fun _ _ z => z.elim)
      obtain ⟨σ6, H6, I6, q6⟩ := h6
      refine wpAny_bind (wpAny_mono (ht _ _ _ _ _ s6 σ6 H6 _ I6 q6) (fun ok s7 h7 => ?_) fun _ _ z => z.elim)
      obtain ⟨H7, I7, q7⟩ := h7
      have back : ∀ {H8 : Hp} {s8 : Shared} {ys' : List V} {its' : List Value} {k' : Nat}, Inv (cxComp X nm scope cl G2.objs.size s2 H1 fp) [] σ6 H8 s8 -> (∀ b ∈ fp, ∀ o, s5.heap.get? b = some o -> s8.heap.get? b = some o) -> (∀ b ∈ fp, H8 b = none) -> H8 s2.heap.objs.size = none ->
          Vals ys' its' -> s8.heap.get? s2.heap.objs.size = some { cls := .type "list", data := .seq its'.toArray k' } -> (∃ m', m' < n /\ W (i + 1) m' ys' H8) ->
          ∃ m, m < n /\ ∃ i ys H', Inv (cxComp X nm scope cl G2.objs.size s2 H1 fp) [] (capSt cap σ) H' s8 /\ tn i s8.heap /\ (∀ b ∈ fp, H' b = none) /\ H' s2.heap.objs.size = none /\
            (∃ its k, Vals ys its /\ s8.heap.get? s2.heap.objs.size = some { cls := .type "list", data := .seq its.toArray k }) /\ W i m ys H' :=
        fun {H8 s8 ys' its' k'} I8 kf f8 n8 rv8 e8 ⟨m', hm, w8⟩ => ⟨m', hm, i + 1, ys', H8, recap hcap hlen I2 hfpc I8, T.keep _ _ _ st5 kf, f8, n8, ⟨its', k', rv8, e8⟩, w8⟩
      cases ok with
      | false =>
        refine wpAny_pure ⟨rfl, ?_⟩
        have q7' : ∃ m', m' < n /\ W (i + 1) m' ys H7 := by simpa using q7
        have pa := I7.pin (s2.heap.objs.size, { cls := .type "list", data := .seq its.toArray ka }) (by simp)
        refine back (I7.pins_of fun p hp => absurd hp (by simp)) (fun b hb o e => ?_) (fun b hb => ?_) pa.2.1 rv pa.1 q7'
        · exact (I7.pin (b, o) (List.mem_append_right _ (List.mem_append_right _ (mem_pinsAt hb e)))).1
        · obtain ⟨o, e, d⟩ := T.obj _ _ st5 b hb
          exact (I7.pin (b, o) (List.mem_append_right _ (List.mem_append_right _ (mem_pinsAt hb e)))).2.1
      | true =>
        rw [if_pos rfl] at q7
        refine wpAny_bind (wpAny_bind (wpAny_mono (he _ _ _ _ _ s7 σ6 H7 _ I7 q7) (fun xv s8 h8 => ?_) fun _ _ z => z.elim))
        obtain ⟨y, H8, I8, r8, hzy, q8⟩ := h8
        have pa := I8.pin (s2.heap.objs.size, { cls := .type "list", data := .seq its.toArray ka }) (by simp)
        refine wpAny_bind (append_plain pa.1 (by rw [<- rv.length]; exact hzy) fun h' k' tk e9 sb => ?_)
        refine wpAny_pure (wpAny_pure ⟨rfl, ?_⟩)
        have I9 : Inv (cxComp X nm scope cl G2.objs.size s2 H1 fp) [] σ6 H8 { s8 with heap := h', toks := tk } :=
          (Inv.pins_of (pins' := []) I8 fun p hp => absurd hp (by simp)).turned (it := s2.heap.objs.size) (fun b o hb e => sb b o hb e) pa.2.1 hDC (.inr (Nat.le_refl _)) (fun x c hx z => by
            obtain ⟨v, hv⟩ := I2.cell x c (hcl _ _ hx)
            exact absurd hv.lt (by rw [z]; exact Nat.lt_irrefl _)) (fun p hp => absurd hp (by simp))
        refine back I9 (fun b hb o e => ?_) (fun b hb => ?_) pa.2.1 (rv.append (.cons r8 .nil)) e9 q8
        · exact sb b o (Nat.ne_of_lt (hfpn b hb)) (I8.pin (b, o) (List.mem_append_right _ (List.mem_append_right _ (mem_pinsAt hb e)))).1
        · obtain ⟨o, e, d⟩ := T.obj _ _ st5 b hb
          exact (I8.pin (b, o) (List.mem_append_right _ (List.mem_append_right _ (mem_pinsAt hb e)))).2.1
  exact codeAny_compStart_list (loop _ rfl) (T.self _ _ _ _ _ (T.keep _ _ _ st2 fun b _ o e => old b o e) (loop _ rfl))
end
theorem qs_setComp {X : Cx} {x0 : Str} {p0 p1 : Pos} {gx : TG} {elt tg iter : Expr} {ifs : List Expr} {scope : Scope} {pos : Pos} {nm : List Str} {cap : List (Option Nat)} {wi : TI} {g : TG} {tc : TT} {te : TE} {m : Nat} (hgx : QG X (.Name x0 p0) gx) (hcalm : X.calm = true)
    (hcells : X.env.cells = cellsFrom m X.env.scope.names []) (hkind : scope.kind = .function) (hB : capB X.env.scope.names scope.names nm cap X.N = true)
    (hi : QI X tg iter wi) (hg : ∀ cl C s0 H0 fp, QG (cxComp X nm scope cl C s0 H0 fp) tg g) (ht : ∀ cl C s0 H0 fp, QTs (cxComp X nm scope cl C s0 H0 fp) ifs tc)
    (he : ∀ cl C s0 H0 fp, QE (cxComp X nm scope cl C s0 H0 fp) elt te) (hs : ∀ x, foldedSetIterable iter X.env x = pure x := by intro _; rfl) (hsw : swapsWith (.ListComp elt [⟨tg, iter, ifs, 0⟩] scope pos) (some (.Name x0 p0)) p1.line X.env = pure true := by first | rfl | kernel_rfl) :
    QS X (.Assign [.Name x0 p0] (.ListComp elt [⟨tg, iter, ifs, 0⟩] scope pos) p1) (tAsg (tComp cap wi g tc te) gx) := by
  simp only [capB, Bool.and_eq_true, List.all_eq_true, Bool.or_eq_true, Bool.not_eq_true', beq_iff_eq, beq_eq_false_iff_ne] at hB
  obtain ⟨⟨⟨⟨b1, b2⟩, b3⟩, b4⟩, b5⟩ := hB
  have has : ∀ x ∈ scope.names, x.2 = .free -> ∃ c, X.env.cells.lookup x.1 = some c := fun x hx hk => by
    rw [hcells]
    rcases b3 x hx with z | z
    · exact absurd hk z
    · exact cell_has z
  have hcl : ∀ x c, (clFrom X.env scope.names []).lookup x = some c -> X.env.cells.lookup x = some c := fun x c h => clFrom_ok scope.names [] has (by simp) (x, c) (lookup_mem' h)
  have hin : ∀ x, (x, NameKind.free) ∈ scope.names -> ∃ c, (clFrom X.env scope.names []).lookup x = some c := fun x h => let ⟨_, q⟩ := clFrom_mem (env := X.env) scope.names [] x h; mem_lookup q
  have hmap : (relabel scope X.env).names = scope.names.map fun y => if (y.2 == .free && X.env.scope.kind == .function && X.env.kindOf y.1 == some .cell) then (y.1, NameKind.cell) else y := by
    show scope.names.map _ = _
    refine List.map_congr_left fun y _ => ?_
    obtain ⟨a, b⟩ := y
    rfl
  have fr : ∀ x, ((relabel scope X.env).names.lookup x = some .cell \/ (relabel scope X.env).names.lookup x = some .free) -> (x, NameKind.free) ∈ scope.names := fun x h => by
    have h' : ∃ k, (x, k) ∈ (relabel scope X.env).names /\ (k = .cell \/ k = .free) := by
      rcases h with h | h
      · exact ⟨_, lookup_mem' h, .inl rfl⟩
      · exact ⟨_, lookup_mem' h, .inr rfl⟩
    obtain ⟨k, hm, hk⟩ := h'
    rw [hmap] at hm
    obtain ⟨y, hy, e⟩ := List.mem_map.mp hm
    obtain ⟨a, b⟩ := y
    by_cases hb : b = .free
    · subst hb
      have : a = x := by split at e <;> (cases e; rfl)
      subst this; exact hy
    · rw [if_neg (by simp [hb])] at e
      cases e
      rcases hk with rfl | rfl
      · exact absurd rfl (b2 _ hy)
      · exact absurd rfl hb
  refine ⟨ps_setComp hgx.h hsw (cl := clFrom X.env scope.names []) (cap := cap) (nm := nm) hcalm (clFor has) hcl hkind (fun x hx hk => (b1 x hx).resolve_left fun z => z hk) (fun y hy => b2 y hy) (fun x hx => hin x (fr x hx)) (fun i j e => ?_) b4 hi.h (fun C s0 H0 fp => (hg _ C s0 H0 fp).h) (fun C s0 H0 fp => (ht _ C s0 H0 fp).h) (fun C s0 H0 fp => (he _ C s0 H0 fp).h) hs⟩
  have hi' : i < cap.length := (List.getElem?_eq_some_iff.mp e).1
  have q := b5 i (List.mem_range.mpr hi')
  rw [e] at q
  dsimp only at q
  cases hx : nm[i]? with
  | none => rw [hx] at q; simp at q
  | some x =>
    cases hy : X.N[j]? with
    | none => rw [hx, hy] at q; simp at q
    | some y =>
      rw [hx, hy] at q
      simp only [Bool.and_eq_true, beq_iff_eq] at q
      obtain ⟨⟨rfl, q1⟩, q2⟩ := q
      refine ⟨x, rfl, rfl, .inr (.inl q1), (by rw [q1]; decide), ?_, ?_⟩
      · obtain ⟨c, hc⟩ := hin x (lookup_mem' q2)
        rw [hc, hcl _ _ hc]
      · rw [hmap]; exact lookup_free (env := X.env) q2
theorem cut1 {a b : TS} {D : Ends} {σ : St} {H : Hp} (G : St -> Hp -> Prop) (hb : ∀ σ' H', G σ' H' -> b D σ' H') (ha : ∀ P : St -> Hp -> Prop, (∀ σ' H', G σ' H' -> P σ' H') -> a { D with nx := P } σ H) : tSeq a b D σ H := ha (b D) hb
end L2
set_option Elab.async false
set_option linter.all false
set_option maxRecDepth 100000
set_option maxHeartbeats 4000000
namespace L2
open PySem PySem.Spec PyProof.Rows
open PySem.Builtin PySem.Builtin.Str in
theorem call_split {prog : Program} {w : World} {A : Around} {E : Value -> Shared -> Prop} {s : Shared} {x y : Str} {t u : Tok} {Q : Value -> Shared -> Prop} (hy : (y.length == 0) = false) (hz : x.length + 2 <= sizeLine)
    (q : ∀ (l : List (Str × Tok)) (k : Nat), l.map (·.1) = Txt.split x y -> Q (.ref s.heap.objs.size) { s with heap := s.heap.push { cls := .type "list", data := .seq (strValues l).toArray }, toks := k }) :
    wpAny (model prog w) A (call (.builtin "str.split") [.str x t, .str y u]) Q E s := by
  have few : (partsBetween x (occurrences x y 0 x.length (x.length + 1)) y.length).length <= sizeLine := by
    have z := StrLaws.occ_length_le x y 0 x.length (x.length + 1)
    rw [length_partsBetween]
    omega
  have T := typeIs_str s x t
  cases c1 : (decide (x.length < y.length) || decide (strKind x < strKind y)) with
  | true => exact call_meets PySem.F.slot_str_split T PySem.F.entry_str_split (PySem.F.args_str_split_2 _ _) (meets_str_split_cannot_occur x y t u c1) (q [(x, t)] s.toks (if_pos c1).symm)
  | false =>
    have n1 := ne_true_of_eq_false c1
    cases c2 : (occurrences x y 0 x.length (x.length + 1)).isEmpty with
    | true => exact call_meets PySem.F.slot_str_split T PySem.F.entry_str_split (PySem.F.args_str_split_2 _ _) (meets_str_split_not_found x y t u c1 hy c2) (q [(x, t)] s.toks ((if_neg n1).trans (if_pos c2)).symm)
    | false =>
      have n2 := ne_true_of_eq_false c2
      refine call_meets PySem.F.slot_str_split T PySem.F.entry_str_split (PySem.F.args_str_split_2 _ _) (meets_str_split_sep x y t u c1 hy c2 (by omega) few) ?_
      have z := q (numbered s.toks (partsBetween x (occurrences x y 0 x.length (x.length + 1)) y.length)) (s.toks + (partsBetween x (occurrences x y 0 x.length (x.length + 1)) y.length).length) ((numbered_texts _ _).trans ((if_neg n1).trans (if_neg n2)).symm)
      rw [<- strsFrom_eq] at z
      exact z
theorem joinN_tail {c : Nat} {x y : List Nat} {r : List (List Nat)} : joinN [c] (x :: y :: r) = x ++ c :: joinN [c] (y :: r) := by show x ++ [c] ++ _ = _; simp
theorem cut_once {c : Nat} : ∀ {x x' r r' : List Nat}, c ∉ x -> c ∉ x' -> x ++ c :: r = x' ++ c :: r' -> x = x' /\ r = r'
  | [], [], _, _, _, _, e => ⟨rfl, by simpa using e⟩
  | [], a :: x', _, _, _, h', e => by
    have : c = a := by simpa using (List.cons.inj e).1
    exact absurd (this ▸ List.mem_cons_self) h'
  | a :: x, [], _, _, h, _, e => by
    have : a = c := by simpa using (List.cons.inj e).1
    exact absurd (this ▸ List.mem_cons_self) h
  | a :: x, b :: x', _, _, h, h', e => by
    obtain ⟨e1, e2⟩ := List.cons.inj e
    obtain ⟨i1, i2⟩ := cut_once (fun z => h (List.mem_cons_of_mem _ z)) (fun z => h' (List.mem_cons_of_mem _ z)) e2
    exact ⟨by rw [e1, i1], i2⟩
theorem joinN_inj {c : Nat} : ∀ (ws vs : List (List Nat)), ws ≠ [] -> vs ≠ [] -> (∀ w ∈ ws, c ∉ w) -> (∀ w ∈ vs, c ∉ w) -> joinN [c] ws = joinN [c] vs -> ws = vs
  | [], _, h, _, _, _, _ => absurd rfl h
  | _, [], _, h, _, _, _ => absurd rfl h
  | [x], [y], _, _, _, _, e => by rw [show x = y from e]
  | [x], y :: y2 :: r, _, _, h, _, e => by
    rw [joinN_tail] at e
    have e : x = y ++ c :: joinN [c] (y2 :: r) := e
    exact absurd (by rw [e]; simp) (h x List.mem_cons_self)
  | x :: x2 :: r, [y], _, _, _, h, e => by
    rw [joinN_tail] at e
    have e : x ++ c :: joinN [c] (x2 :: r) = y := e
    exact absurd (by rw [<- e]; simp) (h y List.mem_cons_self)
  | x :: x2 :: r, y :: y2 :: r', _, _, h, h', e => by
    rw [joinN_tail, joinN_tail] at e
    obtain ⟨e1, e2⟩ := cut_once (h x List.mem_cons_self) (h' y List.mem_cons_self) e
    have := joinN_inj (x2 :: r) (y2 :: r') (by simp) (by simp) (fun w hw => h w (List.mem_cons_of_mem _ hw)) (fun w hw => h' w (List.mem_cons_of_mem _ hw)) e2
    rw [e1, this]
theorem split_tx {c : Nat} {ws : List (List Nat)} (hn : ws ≠ []) (hf : ∀ w ∈ ws, c ∉ w) : Txt.split (tx (joinN [c] ws)) (tx [c]) = ws.map tx := by
  have e := StrLaws.join_split (tx (joinN [c] ws)) (tx [c])
  have fr := StrLaws.split_free (tx (joinN [c] ws)) c
  have ps := split_pos (tx (joinN [c] ws)) (tx [c])
  generalize hS : Txt.split (tx (joinN [c] ws)) (tx [c]) = S at e ps
  have fr : ∀ p ∈ S, c ∉ p.cps.toList := fun p hp => fr p (by rw [<- hS] at hp; exact hp)
  have em : S = (S.map fun z => z.cps.toList).map tx := by
    rw [List.map_map]
    conv => lhs; rw [<- List.map_id S]
    exact List.map_congr_left fun z _ => (tx_of z).symm
  have ej : Str.join (tx [c]) ((S.map fun z => z.cps.toList).map tx) = tx (joinN [c] (S.map fun z => z.cps.toList)) := by
    have := join_tx [c] (S.map fun z => z.cps.toList)
    rw [<- this]
    show _ = Builtin.Str.glued _ _
    rw [StrLaws.glued_eq_join]
  rw [em, ej] at e
  have e := tx_inj.mp e
  rw [em]
  refine congrArg _ (joinN_inj _ ws (fun z => ?_) hn (fun w hw => ?_) hf e)
  · rw [List.map_eq_nil_iff] at z; rw [z] at ps; exact absurd ps (by decide)
  · obtain ⟨p, hp, rfl⟩ := List.mem_map.mp hw
    exact fr p hp
def rSplit : V -> List V -> Hp -> VK -> Prop := fun x vs H Q => ∃ (c : Nat) (ws : List (List Nat)), x = .str (tx (joinN [c] ws)) /\ vs = [.str (tx [c])] /\ ws ≠ [] /\ (∀ w ∈ ws, c ∉ w) /\ (joinN [c] ws).length + 2 <= sizeLine /\ ws.length <= sizeLine /\ ∀ p H2, H p = none -> H2 = upd H p (.lst (ws.map fun l => V.str (tx l))) -> Q (.ref p) H2
theorem m_split {X : Cx} : RMt X "str.split" rSplit := ⟨by
  intro pins s σ H x vs v us Q I rx rv h
  obtain ⟨c, ws, rfl, rfl, hn, hf, hz, hw, q⟩ := h
  obtain ⟨t, rfl⟩ := rx
  obtain ⟨u, rfl, t2, rfl⟩ := rv.one
  refine call_split (by rfl) (by rw [tx_len]; exact hz) fun l k e => ?_
  rw [split_tx hn hf] at e
  have hfr : H s.heap.objs.size = none := I.hok.fresh (Nat.le_refl _)
  have hv : Vals (ws.map fun l => V.str (tx l)) (strValues l) := by
    have z := of_strsAre (strsAre_of_values l)
    rw [e, List.map_map] at z
    exact z
  refine ⟨.ref s.heap.objs.size, _, I.laid (o := .lst (ws.map fun l => V.str (tx l))) (t' := k) (fun b o eb => Heap.get?_push_of_some _ eb) (Nat.le_refl _) ?_, rfl, q _ _ hfr rfl⟩
  exact ⟨by rw [List.length_map]; exact hw, strValues l, 0, hv, Heap.get?_push_size _ rfl⟩⟩
theorem cnt_signs (c : Nat) : ∀ l : List Nat, countIn (.str ⟨#[c]⟩) (l.map fun n => PyData.str ⟨#[n]⟩) = ((l.count c : Nat) : Int)
  | [] => rfl
  | d :: r => by
    show (if same (.str ⟨#[d]⟩) (.str ⟨#[c]⟩) then 1 else 0) + countIn (.str ⟨#[c]⟩) (r.map fun n => PyData.str ⟨#[n]⟩) = _
    rw [cnt_signs c r, List.count_cons]
    have e : same (.str ⟨#[d]⟩) (.str ⟨#[c]⟩) = (d == c) := by
      show ((⟨#[d]⟩ : Str) == (⟨#[c]⟩ : Str)) = _
      by_cases h : d = c
      · subst h; simp
      · rw [beq_eq_false_iff_ne.mpr h]
        exact beq_eq_false_iff_ne.mpr fun z => h (by injection z with z; simpa using z)
    rw [e]
    by_cases h : d = c
    · subst h; simp; omega
    · rw [beq_eq_false_iff_ne.mpr h]; simp
def rCount : V -> List V -> Hp -> VK -> Prop := fun x vs H Q => ∃ (l : List Nat) (c : Nat), x = .str (tx l) /\ vs = [.str (tx [c])] /\ Q (.int (l.count c : Nat)) H
theorem m_count {X : Cx} : RMt X "str.count" rCount := ⟨by
  intro pins s σ H x vs v us Q I rx rv h
  obtain ⟨l, c, rfl, rfl, q⟩ := h
  obtain ⟨t, rfl⟩ := rx
  obtain ⟨u, rfl, t2, rfl⟩ := rv.one
  refine call_gives PySem.F.slot_str_count (typeIs_str _ _ _) PySem.F.entry_str_count (PySem.F.args_str_count_2 _ _) (gives_str_count (tx l) (tx [c]) t t2) ?_
  have e : (((Builtin.Str.occurrences (tx l) (tx [c]) 0 (tx l).length ((tx l).length + 1)).length : Nat) : Int) = ((l.count c : Nat) : Int) := (count_is (tx l) c).trans (cnt_signs c l)
  rw [e]
  exact ⟨.int _, H, I.tok _, ⟨_, rfl⟩, q⟩⟩
def rIntS : List V -> Hp -> VK -> Prop := fun xs H Q => ∃ c : Nat, xs = [.str (tx [48 + c])] /\ c <= 3 /\ Q (.int c) H
theorem c_intS {X : Cx} : RCall X (.type "int") rIntS := ⟨by
  intro pins s σ H xs us Q I r h
  obtain ⟨i, rfl, hi, q⟩ := h
  obtain ⟨u, rfl, t, rfl⟩ := vals1 r
  have e : PySem.intText? (tx [48 + i]) = some (i : Int) := by
    rcases (show i = 0 \/ i = 1 \/ i = 2 \/ i = 3 by omega) with rfl | rfl | rfl | rfl <;> decide +kernel
  exact PySem.W.KIN.call_text e (by show 1 <= 640; decide) ⟨.int i, H, I.tok _, ⟨_, rfl⟩, q⟩⟩
end L2
namespace L2
open PySem PySem.Spec PyProof.Rows
open AutoSeq1 (wpAny_loadPart')
theorem add_none (l b : Addr) (i1 i2 : Array Value) (n1 n2 : Nat) (d1 d2 : Option Addr) (s1 s2 : Array (Option Value)) (h0 : i1.isEmpty = true) :
    Meets (Builtin.«tuple.__add__» ⟨[.ref l, .ref b], []⟩) (fun _ R s => s.heap.get? l = some { cls := .type "tuple", dict := d1, data := .seq i1 n1, slots := s1 } /\ s.heap.get? b = some { cls := .type "tuple", dict := d2, data := .seq i2 n2, slots := s2 } /\ R (.ok (.ret (.ref b))) s) :=
  .of_wp fun prog w A R s h => by
    obtain ⟨hp, g, d, tk, os⟩ := s
    obtain ⟨e1, e2, h⟩ := h
    have a2 := PyProof.Rows.sub_tuple_tuple
    wp_walk using wpAny_loadPart' e1, wpAny_loadPart' e2
    exact ⟨_, rfl, h⟩
def rCatA (K : PySem.W.Frag) : R2 := fun x y H Q => ∃ a b xs ys, x = .ref a /\ y = .ref b /\ SqT K H a xs /\ SqT K H b ys /\ xs.length + ys.length <= sizeLine /\ ∀ p H2, Same H H2 -> SqT K H2 p (xs ++ ys) -> Q (.ref p) H2
theorem o_catA {X : Cx} : ROp X (binaryOp .Add) (rCatA X.K) := ⟨by
  intro pins s σ H x y v u Q I rx ry h
  obtain ⟨a, b, xs, ys, rfl, rfl, ha, hb, hz, q⟩ := h
  by_cases hx : xs = []
  · subst hx
    cases rx
    cases ry
    obtain ⟨its, r1, p1, _⟩ := I.tuple ha
    obtain ⟨its2, r2, p2, _⟩ := I.tuple hb
    have e1 : its = [] := r1.nil_iff.mpr rfl
    obtain ⟨⟨c1, d1, g1, l1⟩, f1, hc1, n1, hd1⟩ := id p1
    obtain ⟨⟨c2, d2, g2, l2⟩, f2, hc2, n2, hd2⟩ := id p2
    simp only at hc1 hd1 hc2 hd2
    subst hc1 hd1 hc2 hd2
    refine concat_meets ⟨_, f1, rfl⟩ ⟨_, f2, rfl⟩ noFill_tuple_add seq_tuple_add PySem.F.slot_tuple_add PySem.F.entry_tuple_add (PySem.F.args_tuple_add_2 _ _) (add_none a b its.toArray its2.toArray n1 n2 d1 d2 l1 l2 (by rw [e1]; rfl)) ⟨f1, f2, ?_⟩
    exact ⟨.ref b, H, I, rfl, q b H (Same.refl H) hb⟩
  · exact op_catT pins s σ H _ _ v u Q I rx ry ⟨a, b, xs, ys, rfl, rfl, ha, hb, hx, hz, fun e => q a H (Same.refl H) (by rw [e, List.append_nil]; exact ha), fun _ p hp => q p _ (same_new hp _) (SqT.of upd_same)⟩⟩
end L2
set_option Elab.async false
set_option linter.all false
set_option maxRecDepth 100000
set_option maxHeartbeats 4000000
namespace L2
open PySem PySem.Spec PyProof.Rows
inductive W where
  | non | bl (b : Bool) | int (i : Int) | str (l : List Nat) | tup (ws : List W) | loc (n : Nat)
inductive Cell where
  | lst (ws : List W)
  | ro (ws : List W)
  | exc (c : Str)
abbrev LIM : Nat := 1000000
theorem lim_le {n : Nat} (h : n <= LIM) : n <= sizeLine := Nat.le_trans h (by decide)
theorem lim_lt {n : Nat} (h : n <= LIM) : n < sizeLine := Nat.lt_of_le_of_lt h (by decide)
inductive R (α : Type) where
  | ok (a : α) (st : List Cell)
  | ex (c : Str) (st : List Cell)
  | bad
def R.bind {α β : Type} : R α -> (α -> List Cell -> R β) -> R β
  | .ok a st, k => k a st
  | .ex c st, _ => .ex c st
  | .bad, _ => .bad
@[simp] theorem R.bind_ok {α β : Type} (a : α) (st : List Cell) (k : α -> List Cell -> R β) : (R.ok a st).bind k = k a st := rfl
@[simp] theorem R.bind_ex {α β : Type} (c : Str) (st : List Cell) (k : α -> List Cell -> R β) : (R.ex c st : R α).bind k = .ex c st := rfl
@[simp] theorem R.bind_bad {α β : Type} (k : α -> List Cell -> R β) : (R.bad : R α).bind k = .bad := rfl
abbrev EnvW := List (Option W)
inductive RS where
  | nx (ρ : EnvW) (st : List Cell) | rt (w : W) (st : List Cell) | bk (ρ : EnvW) (st : List Cell) | ct (ρ : EnvW) (st : List Cell)
  | ex (c : Str) (ρ : EnvW) (st : List Cell) | bad
abbrev FE := EnvW -> List Cell -> R W
abbrev FT := EnvW -> List Cell -> R Bool
abbrev FA := EnvW -> List Cell -> R (List W)
abbrev FS := EnvW -> List Cell -> RS
section
variable (K : PySem.W.Frag)
mutual
def RelW (μ : List Addr) (H : Hp) : W -> V -> Prop
  | .non, v => v = .non
  | .bl b, v => v = .bl b
  | .int i, v => v = .int i
  | .str l, v => v = .str (tx l)
  | .tup ws, v => ∃ p vs, v = .ref p /\ SqT K H p vs /\ RelWs μ H ws vs
  | .loc n, v => ∃ a, μ[n]? = some a /\ v = .ref a
def RelWs (μ : List Addr) (H : Hp) : List W -> List V -> Prop
  | [], vs => vs = []
  | w :: ws, vs => ∃ x xs, vs = x :: xs /\ RelW μ H w x /\ RelWs μ H ws xs
end
end
theorem pre_get {μ μ' : List Addr} (h : μ <+: μ') {n : Nat} {a : Addr} (e : μ[n]? = some a) : μ'[n]? = some a := by
  obtain ⟨t, rfl⟩ := h
  rw [List.getElem?_append_left (List.getElem?_eq_some_iff.mp e).1]; exact e
section
variable {K : PySem.W.Frag} {μ μ' : List Addr} {H H' : Hp}
mutual
theorem RelW.mono (h : μ <+: μ') (e : Ext K H H') : ∀ {w : W} {v : V}, RelW K μ H w v -> RelW K μ' H' w v
  | .non, _, r => by unfold RelW at r ⊢; exact r
  | .bl _, _, r => by unfold RelW at r ⊢; exact r
  | .int _, _, r => by unfold RelW at r ⊢; exact r
  | .str _, _, r => by unfold RelW at r ⊢; exact r
  | .tup _, _, r => by unfold RelW at r ⊢; obtain ⟨p, vs, a, b, c⟩ := r; exact ⟨p, vs, a, e _ _ b, RelWs.mono h e c⟩
  | .loc _, _, r => by unfold RelW at r ⊢; obtain ⟨a, b, c⟩ := r; exact ⟨a, pre_get h b, c⟩
theorem RelWs.mono (h : μ <+: μ') (e : Ext K H H') : ∀ {ws : List W} {vs : List V}, RelWs K μ H ws vs -> RelWs K μ' H' ws vs
  | [], _, r => by unfold RelWs at r ⊢; exact r
  | _ :: _, _, r => by unfold RelWs at r ⊢; obtain ⟨x, xs, a, b, c⟩ := r; exact ⟨x, xs, a, RelW.mono h e b, RelWs.mono h e c⟩
end
theorem RelWs.nilI : RelWs K μ H [] [] := by unfold RelWs; rfl
theorem RelWs.consI {w : W} {ws : List W} {x : V} {xs : List V} (a : RelW K μ H w x) (b : RelWs K μ H ws xs) : RelWs K μ H (w :: ws) (x :: xs) := by unfold RelWs; exact ⟨x, xs, rfl, a, b⟩
theorem RelWs.nilE {vs : List V} (h : RelWs K μ H [] vs) : vs = [] := by unfold RelWs at h; exact h
theorem RelWs.consE {w : W} {ws : List W} {vs : List V} (h : RelWs K μ H (w :: ws) vs) : ∃ x xs, vs = x :: xs /\ RelW K μ H w x /\ RelWs K μ H ws xs := by unfold RelWs at h; exact h
theorem RelWs.pr : ∀ {ws : List W} {vs : List V}, RelWs K μ H ws vs ↔ Paired (fun w v => RelW K μ H w v) ws vs
  | [], vs => ⟨fun h => by rw [h.nilE]; exact .nil, fun h => by cases h; exact .nilI⟩
  | w :: ws, vs => ⟨fun h => by obtain ⟨x, xs, rfl, a, b⟩ := h.consE; exact .cons a (RelWs.pr.mp b), fun h => by cases h with | cons a b => exact .consI a (RelWs.pr.mpr b)⟩
theorem RelWs.len {ws : List W} {vs : List V} (h : RelWs K μ H ws vs) : ws.length = vs.length := Paired.length (RelWs.pr.mp h)
theorem RelWs.app : ∀ {as : List W} {xs : List V} {bs : List W} {ys : List V}, RelWs K μ H as xs -> RelWs K μ H bs ys -> RelWs K μ H (as ++ bs) (xs ++ ys)
  | [], xs, bs, ys, a, b => by rw [a.nilE]; exact b
  | w :: as, xs, bs, ys, a, b => by obtain ⟨x, xs, rfl, c, d⟩ := a.consE; exact .consI c (RelWs.app d b)
theorem RelWs.get : ∀ {ws : List W} {vs : List V} {i : Nat} {w : W}, RelWs K μ H ws vs -> ws[i]? = some w -> ∃ v, vs[i]? = some v /\ RelW K μ H w v
  | [], _, _, _, _, e => by simp at e
  | x :: ws, vs, 0, w, h, e => by obtain ⟨y, ys, rfl, a, b⟩ := h.consE; simp at e; subst e; exact ⟨y, rfl, a⟩
  | x :: ws, vs, i + 1, w, h, e => by obtain ⟨y, ys, rfl, a, b⟩ := h.consE; simpa using RelWs.get (i := i) b (by simpa using e)
theorem RelWs.take : ∀ {ws : List W} {vs : List V} (n : Nat), RelWs K μ H ws vs -> RelWs K μ H (ws.take n) (vs.take n)
  | _, _, 0, _ => by simp only [List.take_zero]; exact .nilI
  | [], vs, n + 1, h => by rw [h.nilE]; exact .nilI
  | x :: ws, vs, n + 1, h => by obtain ⟨y, ys, rfl, a, b⟩ := h.consE; exact .consI a (RelWs.take n b)
theorem RelWs.drop : ∀ {ws : List W} {vs : List V} (n : Nat), RelWs K μ H ws vs -> RelWs K μ H (ws.drop n) (vs.drop n)
  | _, _, 0, h => h
  | [], vs, n + 1, h => by rw [h.nilE]; exact .nilI
  | x :: ws, vs, n + 1, h => by obtain ⟨y, ys, rfl, a, b⟩ := h.consE; exact RelWs.drop n b
theorem RelWs.setI : ∀ {ws : List W} {vs : List V} (i : Nat) {w : W} {v : V}, RelW K μ H w v -> RelWs K μ H ws vs -> RelWs K μ H (ws.set i w) (vs.set i v)
  | [], vs, _, _, _, _, h => by rw [h.nilE]; exact .nilI
  | x :: ws, vs, 0, w, v, r, h => by obtain ⟨y, ys, rfl, a, b⟩ := h.consE; exact .consI r b
  | x :: ws, vs, i + 1, w, v, r, h => by obtain ⟨y, ys, rfl, a, b⟩ := h.consE; exact .consI a (RelWs.setI i r b)
theorem RelW.intE {i : Int} {v : V} (h : RelW K μ H (.int i) v) : v = .int i := by unfold RelW at h; exact h
theorem RelW.blE {b : Bool} {v : V} (h : RelW K μ H (.bl b) v) : v = .bl b := by unfold RelW at h; exact h
theorem RelW.nonE {v : V} (h : RelW K μ H .non v) : v = .non := by unfold RelW at h; exact h
theorem RelW.strE {l : List Nat} {v : V} (h : RelW K μ H (.str l) v) : v = .str (tx l) := by unfold RelW at h; exact h
theorem RelW.tupE {ws : List W} {v : V} (h : RelW K μ H (.tup ws) v) : ∃ p vs, v = .ref p /\ SqT K H p vs /\ RelWs K μ H ws vs := by unfold RelW at h; exact h
theorem RelW.locE {n : Nat} {v : V} (h : RelW K μ H (.loc n) v) : ∃ a, μ[n]? = some a /\ v = .ref a := by unfold RelW at h; exact h
theorem RelW.int {i : Int} : RelW K μ H (.int i) (.int i) := by unfold RelW; rfl
theorem RelW.bl {i : Bool} : RelW K μ H (.bl i) (.bl i) := by unfold RelW; rfl
theorem RelW.non : RelW K μ H .non .non := by unfold RelW; rfl
theorem RelW.str {l : List Nat} : RelW K μ H (.str l) (.str (tx l)) := by unfold RelW; rfl
theorem RelW.tupI {ws : List W} {p : Addr} {vs : List V} (a : SqT K H p vs) (b : RelWs K μ H ws vs) : RelW K μ H (.tup ws) (.ref p) := by unfold RelW; exact ⟨p, vs, rfl, a, b⟩
theorem RelW.locI {n : Nat} {a : Addr} (e : μ[n]? = some a) : RelW K μ H (.loc n) (.ref a) := by unfold RelW; exact ⟨a, e, rfl⟩
end
def excAt (a : Addr) (C : Value) : HO := .ext fun h => ∃ o vs, h.get? a = some o /\ o.cls = C /\ o.data = .fields vs
def RoL (K : PySem.W.Frag) (H : Hp) (a : Addr) (xs : List V) : Prop :=
  (∃ o, H a = some (.frz o (.lst xs))) \/ ∃ (o : Obj) (its : Array Value) (n : Nat), K.lookup a = some o /\ o.cls = .type "list" /\ o.dict = none /\ o.data = .seq its n /\ its.size <= sizeLine /\ Vals xs its.toList
theorem RoL.sq {K : PySem.W.Frag} {H : Hp} {a : Addr} {xs : List V} (h : RoL K H a xs) : SqL K H a xs := by
  rcases h with ⟨o, h⟩ | h
  · exact .inl (.inr ⟨o, h⟩)
  · exact .inr h
def Cell.isRo : Cell -> Bool
  | .ro _ => true
  | _ => false
def CellR (K : PySem.W.Frag) (mg : Str -> Option Value) (μ : List Addr) (H : Hp) : Cell -> Addr -> Prop
  | .lst ws, a => ∃ vs, H a = some (.lst vs) /\ RelWs K μ H ws vs
  | .ro ws, a => ∃ vs, RoL K H a vs /\ RelWs K μ H ws vs
  | .exc c, a => ∃ C, mg c = some C /\ H a = some (excAt a C)
structure StR (K : PySem.W.Frag) (mg : Str -> Option Value) (μ : List Addr) (st : List Cell) (H : Hp) : Prop where
  nd : ∀ (i j : Nat) (a : Addr) (ci cj : Cell), st[i]? = some ci -> st[j]? = some cj -> ci.isRo = false -> cj.isRo = false -> μ[i]? = some a -> μ[j]? = some a -> i = j
  len : st.length = μ.length
  at' : ∀ (i : Nat) (c : Cell) (a : Addr), st[i]? = some c -> μ[i]? = some a -> CellR K mg μ H c a
section
variable {K : PySem.W.Frag} {mg : Str -> Option Value} {μ μ' : List Addr} {H H' : Hp} {st : List Cell}
theorem CellR.keep (h : μ <+: μ') (x : Ext K H H') {c : Cell} {a : Addr} (e : ∀ o, H a = some o -> H' a = some o) (r : CellR K mg μ H c a) : CellR K mg μ' H' c a := by
  cases c with
  | lst ws => obtain ⟨vs, p, y⟩ := r; exact ⟨vs, e _ p, y.mono h x⟩
  | ro ws =>
    obtain ⟨vs, p, y⟩ := r
    refine ⟨vs, ?_, y.mono h x⟩
    rcases p with ⟨o, p⟩ | p
    · exact .inl ⟨o, e _ p⟩
    · exact .inr p
  | exc c => obtain ⟨C, p, y⟩ := r; exact ⟨C, p, e _ y⟩
theorem CellR.ro_ne {c : Cell} {a : Addr} (r : CellR K mg μ H c a) (h : c.isRo = false) : ∃ o, H a = some o := by
  cases c with
  | lst ws => obtain ⟨vs, p, y⟩ := r; exact ⟨_, p⟩
  | ro ws => cases h
  | exc c => obtain ⟨C, p, y⟩ := r; exact ⟨_, y⟩
theorem StR.same (S : StR K mg μ st H) (e : Same H H') : StR K mg μ st H' := ⟨S.nd, S.len, fun i c a h1 h2 => (S.at' i c a h1 h2).keep (List.prefix_refl _) (SqT.same e) (e a)⟩
theorem StR.get (S : StR K mg μ st H) {n : Nat} {c : Cell} (h : st[n]? = some c) : ∃ a, μ[n]? = some a /\ CellR K mg μ H c a := by
  have hn : n < μ.length := by rw [<- S.len]; exact (List.getElem?_eq_some_iff.mp h).1
  exact ⟨μ[n], List.getElem?_eq_getElem hn, S.at' n c _ h (List.getElem?_eq_getElem hn)⟩
theorem StR.push (S : StR K mg μ st H) {p : Addr} {o : HO} {c : Cell} (hp : H p = none) (hc : CellR K mg (μ ++ [p]) (upd H p o) c p) : StR K mg (μ ++ [p]) (st ++ [c]) (upd H p o) := by
  have hs : Same H (upd H p o) := same_new hp o
  have hpre : μ <+: μ ++ [p] := List.prefix_append _ _
  have old : ∀ {i : Nat} {d : Cell} {a : Addr}, i < st.length -> (st ++ [c])[i]? = some d -> (μ ++ [p])[i]? = some a -> st[i]? = some d /\ μ[i]? = some a := fun {i d a} hi h1 h2 => by
    rw [List.getElem?_append_left hi] at h1
    rw [List.getElem?_append_left (by rw [<- S.len]; exact hi)] at h2
    exact ⟨h1, h2⟩
  have new : ∀ {i : Nat} {d : Cell} {a : Addr}, ¬ i < st.length -> (st ++ [c])[i]? = some d -> (μ ++ [p])[i]? = some a -> i = st.length /\ d = c /\ a = p := fun {i d a} hi h1 h2 => by
    have hi' : i = st.length := by
      have := (List.getElem?_eq_some_iff.mp h1).1
      simp at this; omega
    subst hi'
    simp at h1
    rw [S.len, List.getElem?_append_right (Nat.le_refl _)] at h2
    simp at h2
    exact ⟨rfl, h1.symm, h2.symm⟩
  refine ⟨fun i j a ci cj h1 h2 r1 r2 m1 m2 => ?_, by simp [S.len], fun i d a h1 h2 => ?_⟩
  · by_cases hi : i < st.length
    · obtain ⟨x1, x2⟩ := old hi h1 m1
      by_cases hj : j < st.length
      · obtain ⟨y1, y2⟩ := old hj h2 m2
        exact S.nd i j a ci cj x1 y1 r1 r2 x2 y2
      · obtain ⟨_, _, rfl⟩ := new hj h2 m2
        obtain ⟨o', z⟩ := (S.at' i ci a x1 x2).ro_ne r1
        rw [hp] at z; cases z
    · obtain ⟨e1, _, rfl⟩ := new hi h1 m1
      by_cases hj : j < st.length
      · obtain ⟨y1, y2⟩ := old hj h2 m2
        obtain ⟨o', z⟩ := (S.at' j cj a y1 y2).ro_ne r2
        rw [hp] at z; cases z
      · obtain ⟨e2, _, _⟩ := new hj h2 m2
        omega
  · by_cases hi : i < st.length
    · obtain ⟨x1, x2⟩ := old hi h1 h2
      exact (S.at' i d a x1 x2).keep hpre (SqT.same hs) (hs a)
    · obtain ⟨_, rfl, rfl⟩ := new hi h1 h2
      exact hc
theorem StR.set (S : StR K mg μ st H) {n : Nat} {a : Addr} {ws ws' : List W} {vs vs' : List V} (hn : st[n]? = some (.lst ws)) (hm : μ[n]? = some a) (ha : H a = some (.lst vs)) (hr : RelWs K μ H ws' vs') : StR K mg μ (st.set n (.lst ws')) (upd H a (.lst vs')) := by
  have hx : Ext K H (upd H a (.lst vs')) := SqT.but but_upd ha
  have hl : n < st.length := (List.getElem?_eq_some_iff.mp hn).1
  have back : ∀ {i : Nat} {d : Cell}, (st.set n (.lst ws'))[i]? = some d -> ∃ d', st[i]? = some d' /\ (d' = d \/ (i = n /\ d = .lst ws')) := fun {i d} h => by
    by_cases e : i = n
    · subst e
      rw [List.getElem?_set_self hl] at h
      exact ⟨_, hn, .inr ⟨rfl, (Option.some.inj h).symm⟩⟩
    · rw [List.getElem?_set_ne (Ne.symm e)] at h
      exact ⟨d, h, .inl rfl⟩
  refine ⟨fun i j b ci cj h1 h2 r1 r2 m1 m2 => ?_, by simp [S.len], fun i d b h1 h2 => ?_⟩
  · obtain ⟨di, x1, y1⟩ := back h1
    obtain ⟨dj, x2, y2⟩ := back h2
    refine S.nd i j b di dj x1 x2 ?_ ?_ m1 m2
    · rcases y1 with rfl | ⟨rfl, rfl⟩
      · exact r1
      · rw [hn] at x1; cases x1; rfl
    · rcases y2 with rfl | ⟨rfl, rfl⟩
      · exact r2
      · rw [hn] at x2; cases x2; rfl
  · by_cases e : i = n
    · subst e
      rw [List.getElem?_set_self hl] at h1
      cases h1
      rw [hm] at h2; cases h2
      exact ⟨vs', upd_same, hr.mono (List.prefix_refl _) hx⟩
    · rw [List.getElem?_set_ne (Ne.symm e)] at h1
      have r := S.at' i d b h1 h2
      by_cases hro : d.isRo = true
      · cases d with
        | ro zs =>
          obtain ⟨us, p, q⟩ := r
          refine ⟨us, ?_, q.mono (List.prefix_refl _) hx⟩
          rcases p with ⟨o', p⟩ | p
          · exact .inl ⟨o', by rw [upd_ne (by rintro rfl; rw [ha] at p; cases p)]; exact p⟩
          · exact .inr p
        | lst _ => cases hro
        | exc _ => cases hro
      · refine r.keep (List.prefix_refl _) hx fun o ho => ?_
        have hb : b ≠ a := by
          rintro rfl
          exact e (S.nd i n b d _ h1 hn (by simpa using hro) rfl h2 hm)
        rw [upd_ne hb]; exact ho
end
end L2
set_option Elab.async false
set_option linter.all false
set_option maxRecDepth 100000
set_option maxHeartbeats 4000000
namespace L2
open PySem PySem.Spec PyProof.Rows
structure Rl (X : Cx) (μ : List Addr) (ρ : EnvW) (st : List Cell) (σ : St) (H : Hp) : Prop where
  env : Paired (fun (o : Option W) (s : Option V) => ∀ w, o = some w -> ∃ v, s = some v /\ RelW X.K μ H w v) ρ σ
  sto : StR X.K X.mg μ st H
theorem envR_mono {K : PySem.W.Frag} {μ μ' : List Addr} {H H' : Hp} (h : μ <+: μ') (x : Ext K H H') : ∀ {ρ : EnvW} {σ : St}, Paired (fun (o : Option W) (s : Option V) => ∀ w, o = some w -> ∃ v, s = some v /\ RelW K μ H w v) ρ σ ->
    Paired (fun (o : Option W) (s : Option V) => ∀ w, o = some w -> ∃ v, s = some v /\ RelW K μ' H' w v) ρ σ
  | _, _, .nil => .nil
  | _, _, .cons a t => .cons (fun w e => let ⟨v, p, q⟩ := a w e; ⟨v, p, q.mono h x⟩) (envR_mono h x t)
theorem Rl.to {X : Cx} {μ μ' : List Addr} {ρ : EnvW} {st st' : List Cell} {σ : St} {H H' : Hp} (r : Rl X μ ρ st σ H) (h : μ <+: μ') (x : Ext X.K H H') (s : StR X.K X.mg μ' st' H') : Rl X μ' ρ st' σ H' := ⟨envR_mono h x r.env, s⟩
theorem envR_get {K : PySem.W.Frag} {μ : List Addr} {H : Hp} : ∀ {ρ : EnvW} {σ : St} {i : Nat} {w : W}, Paired (fun (o : Option W) (s : Option V) => ∀ w, o = some w -> ∃ v, s = some v /\ RelW K μ H w v) ρ σ -> ρ[i]? = some (some w) -> ∃ v, σ[i]? = some (some v) /\ RelW K μ H w v
  | _, _, _, _, .nil, e => by simp at e
  | _, _, 0, w, .cons a t, e => by simp at e; obtain ⟨v, p, q⟩ := a w e; exact ⟨v, by simp [p], q⟩
  | _, _, i + 1, w, .cons a t, e => by simpa using envR_get (i := i) t (by simpa using e)
theorem envR_set {K : PySem.W.Frag} {μ : List Addr} {H : Hp} {w : W} {v : V} (r : RelW K μ H w v) : ∀ {ρ : EnvW} {σ : St} (i : Nat), Paired (fun (o : Option W) (s : Option V) => ∀ w, o = some w -> ∃ v, s = some v /\ RelW K μ H w v) ρ σ ->
    Paired (fun (o : Option W) (s : Option V) => ∀ w, o = some w -> ∃ v, s = some v /\ RelW K μ H w v) (ρ.set i (some w)) (σ.set i (some v))
  | _, _, _, .nil => .nil
  | _, _, 0, .cons a t => .cons (fun w' e => ⟨v, rfl, by cases e; exact r⟩) t
  | _, _, i + 1, .cons a t => .cons a (envR_set r i t)
structure Flies (X : Cx) (pins : List (Addr × Obj)) (σ : St) (c : Str) (H : Hp) (e : Value) (s : Shared) : Prop where
  inv : Inv X pins σ H s
  ex : ∃ x C t B, e = .ref x /\ X.mg c = some C /\ H x = none /\ B.StaysIn s.heap /\ B.get? x = none /\ s.heap.FunFrames B X.stack /\
    (s.heap.TracedW B x C (.ref t) \/ (∃ oe vs, s.heap.get? x = some oe /\ oe.cls = C /\ oe.dict = none /\ oe.data = .fields vs /\ vs[1]? = some .none /\ vs[0]? = some (.ref t)) \/ ∃ L, X.env.frame = some L /\ s.heap.TracedAtW B x C (.ref t) (rawInt L)) /\
    ∀ b o, s.heap.get? b = some o -> (H b ≠ none \/ ((∃ o0, X.s₀.heap.get? b = some o0) /\ b ∉ X.fs /\ b ∉ X.ex) \/ ((∃ y, X.env.cells.lookup y = some b) /\ b ∉ frs X.stack) \/ ∃ p ∈ X.pn ++ pins, p.1 = b) -> B.get? b = some o
def XS (X : Cx) (c : Str) (μ : List Addr) (ρ : EnvW) (st : List Cell) (H : Hp) : Prop :=
  ∀ pins μ' σ' H' e s', μ <+: μ' -> Ext X.K H H' -> Rl X μ' ρ st σ' H' -> Flies X pins σ' c H' e s' -> X.xe e s'
def XE (X : Cx) (c : Str) (μ : List Addr) (st : List Cell) (σ : St) (H : Hp) : Prop :=
  ∀ pins μ' H' e s', μ <+: μ' -> Ext X.K H H' -> StR X.K X.mg μ' st H' -> Flies X pins σ c H' e s' -> X.xe e s'
theorem XE.mono {X : Cx} {c : Str} {μ μ1 : List Addr} {st : List Cell} {σ : St} {H H1 : Hp} (h : XE X c μ st σ H) (p : μ <+: μ1) (x : Ext X.K H H1) : XE X c μ1 st σ H1 := fun pins μ' H' e s' a b => h pins μ' H' e s' (p.trans a) (x.trans b)
theorem XS.mono {X : Cx} {c : Str} {μ μ1 : List Addr} {ρ : EnvW} {st : List Cell} {H H1 : Hp} (h : XS X c μ ρ st H) (p : μ <+: μ1) (x : Ext X.K H H1) : XS X c μ1 ρ st H1 := fun pins μ' σ' H' e s' a b => h pins μ' σ' H' e s' (p.trans a) (x.trans b)
theorem XS.toE {X : Cx} {c : Str} {μ : List Addr} {ρ : EnvW} {st0 st : List Cell} {σ : St} {H : Hp} (h : XS X c μ ρ st H) (r : Rl X μ ρ st0 σ H) : XE X c μ st σ H := fun pins μ' H' e s' a b s f => h pins μ' σ H' e s' a b (r.to a b s) f
def RK {α β : Type} (X : Cx) (rel : List Addr -> Hp -> α -> β -> Prop) (μ : List Addr) (σ : St) (H : Hp) (Q : β -> Hp -> Prop) : R α -> Prop
  | .ok a st' => ∀ μ' b H', μ <+: μ' -> Ext X.K H H' -> StR X.K X.mg μ' st' H' -> rel μ' H' a b -> Q b H'
  | .ex c st' => XE X c μ st' σ H
  | .bad => False
theorem RK.mono {α β : Type} {X : Cx} {rel : List Addr -> Hp -> α -> β -> Prop} {μ μ1 : List Addr} {σ : St} {H H1 : Hp} {Q : β -> Hp -> Prop} {r : R α} (h : RK X rel μ σ H Q r) (p : μ <+: μ1) (x : Ext X.K H H1) : RK X rel μ1 σ H1 Q r := by
  cases r with
  | ok a st => exact fun μ' b H' a1 b1 => h μ' b H' (p.trans a1) (x.trans b1)
  | ex c st => exact XE.mono h p x
  | bad => exact h
def tG {α β : Type} (X : Cx) (rel : List Addr -> Hp -> α -> β -> Prop) (f : EnvW -> List Cell -> R α) (σ : St) (H : Hp) (Q : β -> Hp -> Prop) : Prop :=
  ∃ μ ρ st, Rl X μ ρ st σ H /\ RK X rel μ σ H Q (f ρ st)
abbrev relW (X : Cx) : List Addr -> Hp -> W -> V -> Prop := fun μ H w v => RelW X.K μ H w v
abbrev relA (X : Cx) : List Addr -> Hp -> List W -> List V -> Prop := fun μ H w v => RelWs X.K μ H w v
abbrev relB : List Addr -> Hp -> Bool -> Bool -> Prop := fun _ _ a b => a = b
abbrev tE (X : Cx) (f : FE) : TE := tG X (relW X) f
abbrev tT (X : Cx) (f : FT) : TT := tG X relB f
abbrev tA' (X : Cx) (f : FA) : TA := tG X (relA X) f
theorem RK.bind {α β α' β' : Type} {X : Cx} {rel : List Addr -> Hp -> α -> β -> Prop} {rel' : List Addr -> Hp -> α' -> β' -> Prop} {μ : List Addr} {ρ : EnvW} {st : List Cell} {σ : St} {H : Hp} {r : R α} {k : α -> List Cell -> R α'} {Q : β' -> Hp -> Prop} {T : β -> Hp -> Prop}
    (h : RK X rel' μ σ H Q (r.bind k)) (l : Rl X μ ρ st σ H)
    (hk : ∀ μ' st' x v H', μ <+: μ' -> Ext X.K H H' -> Rl X μ' ρ st' σ H' -> rel μ' H' x v -> RK X rel' μ' σ H' Q (k x st') -> T v H') : RK X rel μ σ H T r := by
  cases r with
  | ok a st' => exact fun μ' b H' p x s q => hk μ' st' a b H' p x (l.to p x s) q (RK.mono h p x)
  | ex c st' => exact h
  | bad => exact h
def SK (X : Cx) (μ : List Addr) (H : Hp) (D : Ends) : RS -> Prop
  | .nx ρ st => ∀ μ' σ' H', μ <+: μ' -> Ext X.K H H' -> Rl X μ' ρ st σ' H' -> D.nx σ' H'
  | .bk ρ st => ∀ μ' σ' H', μ <+: μ' -> Ext X.K H H' -> Rl X μ' ρ st σ' H' -> D.bk σ' H'
  | .ct ρ st => ∀ μ' σ' H', μ <+: μ' -> Ext X.K H H' -> Rl X μ' ρ st σ' H' -> D.ct σ' H'
  | .rt w st => ∀ μ' v H', μ <+: μ' -> Ext X.K H H' -> StR X.K X.mg μ' st H' -> RelW X.K μ' H' w v -> D.rt v H'
  | .ex c ρ st => XS X c μ ρ st H
  | .bad => False
theorem SK.mono {X : Cx} {μ μ1 : List Addr} {H H1 : Hp} {D : Ends} {r : RS} (h : SK X μ H D r) (p : μ <+: μ1) (x : Ext X.K H H1) : SK X μ1 H1 D r := by
  cases r with
  | nx ρ st => exact fun μ' b H' a1 b1 => h μ' b H' (p.trans a1) (x.trans b1)
  | bk ρ st => exact fun μ' b H' a1 b1 => h μ' b H' (p.trans a1) (x.trans b1)
  | ct ρ st => exact fun μ' b H' a1 b1 => h μ' b H' (p.trans a1) (x.trans b1)
  | rt w st => exact fun μ' b H' a1 b1 => h μ' b H' (p.trans a1) (x.trans b1)
  | ex c ρ st => exact XS.mono h p x
  | bad => exact h
def tSt (X : Cx) (g : FS) : TS := fun D σ H => ∃ μ ρ st, Rl X μ ρ st σ H /\ SK X μ H D (g ρ st)
structure SE (X : Cx) (e : Expr) (f : FE) : Prop where
  h : PE X e (tE X f)
structure ST (X : Cx) (e : Expr) (f : FT) : Prop where
  h : PT X e (tT X f)
structure SW (X : Cx) (e : Expr) (f : FT) : Prop where
  h : PW X e (tT X f)
structure SA (X : Cx) (es : List Expr) (f : FA) : Prop where
  h : PA X es (tA' X f)
structure SS (X : Cx) (s : Stmt) (g : FS) : Prop where
  h : PS X s (tSt X g)
structure SB (X : Cx) (s : List Stmt) (g : FS) : Prop where
  h : PSs X s (tSt X g)
theorem PE.imp {X : Cx} {e : Expr} {t t' : TE} (h : PE X e t) (i : ∀ σ H Q, t' σ H Q -> t σ H Q) : PE X e t' := fun pins s σ H Q I q => h pins s σ H Q I (i _ _ _ q)
theorem PT.imp {X : Cx} {e : Expr} {t t' : TT} (h : PT X e t) (i : ∀ σ H Q, t' σ H Q -> t σ H Q) : PT X e t' := fun pins s σ H Q I q => h pins s σ H Q I (i _ _ _ q)
theorem PW.imp {X : Cx} {e : Expr} {t t' : TT} (h : PW X e t) (i : ∀ σ H Q, t' σ H Q -> t σ H Q) : PW X e t' := fun wh pins s σ H Q I q => h wh pins s σ H Q I (i _ _ _ q)
theorem PA.imp {X : Cx} {e : List Expr} {t t' : TA} (h : PA X e t) (i : ∀ σ H Q, t' σ H Q -> t σ H Q) : PA X e t' := fun pos pins s σ H Q I q => h pos pins s σ H Q I (i _ _ _ q)
theorem PS.imp {X : Cx} {e : Stmt} {t t' : TS} (h : PS X e t) (i : ∀ D σ H, t' D σ H -> t D σ H) : PS X e t' := fun pins s σ H D I q => h pins s σ H D I (i _ _ _ q)
theorem PSs.imp {X : Cx} {e : List Stmt} {t t' : TS} (h : PSs X e t) (i : ∀ D σ H, t' D σ H -> t D σ H) : PSs X e t' := fun pins s σ H D I q => h pins s σ H D I (i _ _ _ q)
section
variable {X : Cx} {a b c e o : Expr} {es : List Expr} {pos p p2 apos cpos : Pos} {x name : Str} {j : Nat} {rest : List Expr} {fa fb fc fe : FE} {ft fu : FT} {fs : FA}
def eVar (i : Nat) : FE := fun ρ st => match ρ[i]? with
  | some (some w) => .ok w st
  | _ => .bad
theorem s_var (i : Nat) {x : Str} {pos : Pos} (hN : X.N[i]? = some x := by rfl) (hv : Vis X.env.scope x := by first | exact Or.inl rfl | exact Or.inr (Or.inl rfl) | exact Or.inr (Or.inr rfl)) (hd : (x == ("__debug__" : Str)) = false := by decide)
    (hcd : (x == ("__classdict__" : Str)) = false := by decide) : SE X (.Name x pos) (eVar i) := ⟨(pv i hN hv hd hcd).imp fun σ H Q h => by
  obtain ⟨μ, ρ, st, r, h⟩ := h
  unfold eVar at h
  cases e : ρ[i]? with
  | none => rw [e] at h; exact h.elim
  | some ow =>
    cases ow with
    | none => rw [e] at h; exact h.elim
    | some w =>
      rw [e] at h
      obtain ⟨v, e1, e2⟩ := envR_get r.env e
      exact ⟨v, e1, h μ v H (List.prefix_refl _) Ext.refl r.sto e2⟩⟩
def eC (w : W) : FE := fun _ st => .ok w st
theorem s_c {w : W} {v : V} (hc : PE X e (tC v)) (hr : ∀ μ H, RelW X.K μ H w v) : SE X e (eC w) := ⟨hc.imp fun σ H Q h => by
  obtain ⟨μ, ρ, st, r, h⟩ := h
  exact h μ v H (List.prefix_refl _) Ext.refl r.sto (hr _ _)⟩
theorem s_int {i : Int} : SE X (.Constant (.int i) j pos) (eC (.int i)) := s_c pe_int fun _ _ => .int
theorem s_bl {k : Bool} : SE X (.Constant (.bool k) j pos) (eC (.bl k)) := s_c pe_bl fun _ _ => .bl
theorem s_non : SE X (.Constant .none j pos) (eC .non) := s_c pe_non fun _ _ => .non
theorem s_str {l : List Nat} (h : x = tx l := by decide +kernel) : SE X (.Constant (.str x) j pos) (eC (.str l)) := s_c pe_str fun _ _ => by rw [h]; exact .str
theorem s_gc {w : W} (h : ∃ u v, X.mg x = some u /\ RelV v u /\ ∀ μ H, RelW X.K μ H w v) (hg : Gl X x := by rfl) (hd : (x == ("__debug__" : Str)) = false := by decide) : SE X (.Name x pos) (eC w) := by
  obtain ⟨u, v, a, b, c⟩ := h
  exact s_c (pe_gc ⟨u, a, b⟩ hg hd) c
def e2 (f : W -> W -> List Cell -> R W) (fa fb : FE) : FE := fun ρ st => (fa ρ st).bind fun x st => (fb ρ st).bind fun y st => f x y st
def OkW (X : Cx) (μ : List Addr) (H : Hp) (Q : VK) : R W -> Prop
  | .ok w st' => ∀ μ' v H', μ <+: μ' -> Ext X.K H H' -> StR X.K X.mg μ' st' H' -> RelW X.K μ' H' w v -> Q v H'
  | _ => False
def noEx {α : Type} : R α -> Prop
  | .ex _ _ => False
  | _ => True
def rW2 (X : Cx) (f : W -> W -> List Cell -> R W) : R2 := fun x y H Q => ∃ μ st wx wy, StR X.K X.mg μ st H /\ RelW X.K μ H wx x /\ RelW X.K μ H wy y /\ OkW X μ H Q (f wx wy st)
structure OpW (X : Cx) (g : Value -> Value -> Sem Value) (f : W -> W -> List Cell -> R W) : Prop where
  h : OpR X g (rW2 X f)
  n : ∀ x y st, noEx (f x y st)
theorem okW_of {μ : List Addr} {σ : St} {H : Hp} {Q : VK} {r : R W} (h : RK X (relW X) μ σ H Q r) (n : noEx r) : OkW X μ H Q r := by
  cases r with
  | ok a st => exact h
  | ex c st => exact n.elim
  | bad => exact h
theorem e2_op {f : W -> W -> List Cell -> R W} {σ : St} {H : Hp} {Q : VK} (n : ∀ x y st, noEx (f x y st)) (h : tE X (e2 f fa fb) σ H Q) : tOp (rW2 X f) (tE X fa) (tE X fb) σ H Q := by
  obtain ⟨μ, ρ, st, l, h⟩ := h
  refine ⟨μ, ρ, st, l, RK.bind h l fun μ1 st1 x v H1 p1 x1 l1 q1 h1 => ⟨μ1, ρ, st1, l1, RK.bind h1 l1 fun μ2 st2 y u H2 p2 x2 l2 q2 h2 => ?_⟩⟩
  exact ⟨μ2, st2, x, y, l2.sto, q1.mono p2 x2, q2, okW_of h2 (n _ _ _)⟩
theorem s_op {op : Operator} {f : W -> W -> List Cell -> R W} (ho : OpW X (binaryOp op) f) (ha : SE X a fa) (hb : SE X b fb) : SE X (.BinOp a op b pos) (e2 f fa fb) := ⟨(pe_op ho.h ha.h hb.h).imp fun _ _ _ h => e2_op ho.n h⟩
theorem s_cmp {op : CmpOp} {f : W -> W -> List Cell -> R W} (ho : OpW X (compareOp op) f) (ha : SE X a fa) (hb : SE X b fb) (hm : behindInMarks op b = false := by first | exact nomark _ | rfl) : SE X (.Compare a [op] [b] pos) (e2 f fa fb) := ⟨(pe_cmpR ho.h ha.h hb.h hm).imp fun _ _ _ h => e2_op ho.n h⟩
def asB (fa : FE) : FT := fun ρ st => (fa ρ st).bind fun x st => match x with
  | .bl k => .ok k st
  | _ => .bad
theorem asB_test {σ : St} {H : Hp} {Q : Bool -> Hp -> Prop} (h : tT X (asB fa) σ H Q) : tE X fa σ H fun x H1 => ∃ k, x = .bl k /\ Q k H1 := by
  obtain ⟨μ, ρ, st, l, h⟩ := h
  refine ⟨μ, ρ, st, l, RK.bind h l fun μ1 st1 x v H1 p1 x1 l1 q1 h1 => ?_⟩
  cases x with
  | bl k => exact ⟨k, q1.blE, h1 μ1 k H1 (List.prefix_refl _) Ext.refl l1.sto rfl⟩
  | _ => exact h1.elim
theorem st_cmp {op : CmpOp} {f : W -> W -> List Cell -> R W} (ho : OpW X (compareOp op) f) (ha : SE X a fa) (hb : SE X b fb) (hm : behindInMarks op b = false := by first | exact nomark _ | rfl) : ST X (.Compare a [op] [b] pos) (asB (e2 f fa fb)) := ⟨(pt_cmpR ho.h ha.h hb.h hm).imp fun σ H Q h => by
  have h' : tE X (e2 f fa fb) σ H fun x H1 => ∃ k, x = .bl k /\ Q k H1 := asB_test h
  exact e2_op ho.n h'⟩
theorem st_val (h : SE X e fe) (he : ∀ whole, isTrue e X.env whole = (do let v <- whole; standAt e.pos; holding [v] (truthy v)) := by intro _; rfl) : ST X e (asB fe) := ⟨(pt_val h.h he).imp fun σ H Q h => asB_test h⟩
def bnd (t u : FT) : FT := fun ρ st => (t ρ st).bind fun k st => if k then u ρ st else .ok false st
def bor (t u : FT) : FT := fun ρ st => (t ρ st).bind fun k st => if k then .ok true st else u ρ st
def bnt (t : FT) : FT := fun ρ st => (t ρ st).bind fun k st => .ok (!k) st
theorem sw_and1 (ha : ST X a ft) : SW X (.BoolOp .And [a] pos) ft := ⟨pw_and1 ha.h⟩
theorem sw_or1 (ha : ST X a ft) : SW X (.BoolOp .Or [a] pos) ft := ⟨pw_or1 ha.h⟩
theorem sw_and (ha : ST X a ft) (hb : SW X (.BoolOp .And (b :: rest) pos) fu) : SW X (.BoolOp .And (a :: b :: rest) pos) (bnd ft fu) := ⟨(pw_and ha.h hb.h).imp fun σ H Q h => by
  obtain ⟨μ, ρ, st, l, h⟩ := h
  refine ⟨μ, ρ, st, l, RK.bind h l fun μ1 st1 x v H1 p1 x1 l1 q1 h1 => ?_⟩
  cases q1
  cases x with
  | true => exact ⟨μ1, ρ, st1, l1, h1⟩
  | false => exact h1 μ1 false H1 (List.prefix_refl _) Ext.refl l1.sto rfl⟩
theorem sw_or (ha : ST X a ft) (hb : SW X (.BoolOp .Or (b :: rest) pos) fu) : SW X (.BoolOp .Or (a :: b :: rest) pos) (bor ft fu) := ⟨(pw_or ha.h hb.h).imp fun σ H Q h => by
  obtain ⟨μ, ρ, st, l, h⟩ := h
  refine ⟨μ, ρ, st, l, RK.bind h l fun μ1 st1 x v H1 p1 x1 l1 q1 h1 => ?_⟩
  cases q1
  cases x with
  | false => exact ⟨μ1, ρ, st1, l1, h1⟩
  | true => exact h1 μ1 true H1 (List.prefix_refl _) Ext.refl l1.sto rfl⟩
theorem st_w (h : SW X e ft) : ST X e ft := ⟨h.h.pt⟩
theorem st_not (ha : ST X a ft) : ST X (.UnaryOp .Not a pos) (bnt ft) := ⟨(pt_not ha.h).imp fun σ H Q h => by
  obtain ⟨μ, ρ, st, l, h⟩ := h
  refine ⟨μ, ρ, st, l, RK.bind h l fun μ1 st1 x v H1 p1 x1 l1 q1 h1 => ?_⟩
  cases q1
  exact h1 μ1 _ H1 (List.prefix_refl _) Ext.refl l1.sto rfl⟩
def eAnd (fa fb : FE) : FE := fun ρ st => (fa ρ st).bind fun x st => match x with
  | .bl true => fb ρ st
  | .bl false => .ok (.bl false) st
  | _ => .bad
def eOr (fa fb : FE) : FE := fun ρ st => (fa ρ st).bind fun x st => match x with
  | .bl true => .ok (.bl true) st
  | .bl false => fb ρ st
  | _ => .bad
def eNot (fa : FE) : FE := fun ρ st => (fa ρ st).bind fun x st => match x with
  | .bl k => .ok (.bl (!k)) st
  | _ => .bad
theorem s_one {op : BoolOp} (h : SE X a fa) : SE X (.BoolOp op [a] pos) fa := ⟨pe_one h.h⟩
theorem s_and (ha : SE X a fa) (hb : SE X (.BoolOp .And (b :: rest) pos) fb) : SE X (.BoolOp .And (a :: b :: rest) pos) (eAnd fa fb) := ⟨(pe_and ha.h hb.h).imp fun σ H Q h => by
  obtain ⟨μ, ρ, st, l, h⟩ := h
  refine ⟨μ, ρ, st, l, RK.bind h l fun μ1 st1 x v H1 p1 x1 l1 q1 h1 => ?_⟩
  cases x with
  | bl k =>
    refine ⟨k, q1.blE, ?_⟩
    cases k with
    | true => exact ⟨μ1, ρ, st1, l1, h1⟩
    | false => exact h1 μ1 _ H1 (List.prefix_refl _) Ext.refl l1.sto .bl
  | _ => exact h1.elim⟩
theorem s_or (ha : SE X a fa) (hb : SE X (.BoolOp .Or (b :: rest) pos) fb) : SE X (.BoolOp .Or (a :: b :: rest) pos) (eOr fa fb) := ⟨(pe_or ha.h hb.h).imp fun σ H Q h => by
  obtain ⟨μ, ρ, st, l, h⟩ := h
  refine ⟨μ, ρ, st, l, RK.bind h l fun μ1 st1 x v H1 p1 x1 l1 q1 h1 => ?_⟩
  cases x with
  | bl k =>
    refine ⟨k, q1.blE, ?_⟩
    cases k with
    | false => exact ⟨μ1, ρ, st1, l1, h1⟩
    | true => exact h1 μ1 _ H1 (List.prefix_refl _) Ext.refl l1.sto .bl
  | _ => exact h1.elim⟩
theorem s_not (ha : SE X a fa) : SE X (.UnaryOp .Not a pos) (eNot fa) := ⟨(pe_not ha.h).imp fun σ H Q h => by
  obtain ⟨μ, ρ, st, l, h⟩ := h
  refine ⟨μ, ρ, st, l, RK.bind h l fun μ1 st1 x v H1 p1 x1 l1 q1 h1 => ?_⟩
  cases x with
  | bl k => exact ⟨k, q1.blE, h1 μ1 _ H1 (List.prefix_refl _) Ext.refl l1.sto .bl⟩
  | _ => exact h1.elim⟩
def W.isNon : W -> Bool
  | .non => true
  | _ => false
def eIsN (fa : FE) : FE := fun ρ st => (fa ρ st).bind fun x st => .ok (.bl x.isNon) st
def eNotN (fa : FE) : FE := fun ρ st => (fa ρ st).bind fun x st => .ok (.bl (!x.isNon)) st
theorem isN_V {μ : List Addr} {H : Hp} {w : W} {v : V} (r : RelW X.K μ H w v) : decide (v = .non) = w.isNon := by
  cases w with
  | non => rw [r.nonE]; rfl
  | bl b => rw [r.blE]; rfl
  | int b => rw [r.intE]; rfl
  | str b => rw [r.strE]; rfl
  | tup b => obtain ⟨p, vs, rfl, _⟩ := r.tupE; rfl
  | loc b => obtain ⟨p, _, rfl⟩ := r.locE; rfl
theorem isN_t {σ : St} {H : Hp} {Q : VK} (h : tE X (eIsN fa) σ H Q) : tIsN (tE X fa) σ H Q := by
  obtain ⟨μ, ρ, st, l, h⟩ := h
  refine ⟨μ, ρ, st, l, RK.bind h l fun μ1 st1 x v H1 p1 x1 l1 q1 h1 => ?_⟩
  show Q (.bl (decide (v = .non))) H1
  rw [isN_V q1]
  exact h1 μ1 _ H1 (List.prefix_refl _) Ext.refl l1.sto .bl
theorem s_isN {pos' : Pos} (ha : SE X a fa) : SE X (.Compare a [.Is] [.Constant .none j pos'] pos) (eIsN fa) := ⟨(pe_cmp (pc_isN ha.h)).imp fun _ _ _ h => isN_t h⟩
theorem st_isN {pos' : Pos} (ha : SE X a fa) : ST X (.Compare a [.Is] [.Constant .none j pos'] pos) (asB (eIsN fa)) := ⟨(pt_cmp (pc_isN ha.h)).imp fun _ _ _ h => isN_t (asB_test h)⟩
def aNil : FA := fun _ st => .ok [] st
def aCons (fa : FE) (fs : FA) : FA := fun ρ st => (fa ρ st).bind fun x st => (fs ρ st).bind fun xs st => .ok (x :: xs) st
theorem sa_nil : SA X [] aNil := ⟨pa_nil.imp fun σ H Q h => by
  obtain ⟨μ, ρ, st, l, h⟩ := h
  exact h μ [] H (List.prefix_refl _) Ext.refl l.sto .nilI⟩
theorem sa_cons (ha : SE X e fe) (hr : SA X es fs) (hs : starEach (e :: es) X.env = (false, eval e X.env) :: starEach es X.env := by rfl) : SA X (e :: es) (aCons fe fs) := ⟨(pa_cons ha.h hr.h hs).imp fun σ H Q h => by
  obtain ⟨μ, ρ, st, l, h⟩ := h
  refine ⟨μ, ρ, st, l, RK.bind h l fun μ1 st1 x v H1 p1 x1 l1 q1 h1 => ⟨μ1, ρ, st1, l1, RK.bind h1 l1 fun μ2 st2 xs vs H2 p2 x2 l2 q2 h2 => ?_⟩⟩
  exact h2 μ2 _ H2 (List.prefix_refl _) Ext.refl l2.sto (.consI (q1.mono p2 x2) q2)⟩
def wStrs (zs : List (List Nat)) : FA := fun _ st => .ok (zs.map W.str) st
theorem sa_strs {zs : List Str} {ls : List (List Nat)} (h : CS es zs) (hz : zs = ls.map tx := by decide +kernel) : SA X es (wStrs ls) := ⟨(pa_strs (X := X) h).imp fun σ H Q q => by
  obtain ⟨μ, ρ, st, l, q⟩ := q
  refine q μ _ H (List.prefix_refl _) Ext.refl l.sto ?_
  rw [hz]
  clear hz h q
  induction ls with
  | nil => exact .nilI
  | cons a r ih => exact .consI .str ih⟩
def mkTup (ws : List W) (st : List Cell) : R W := if ws.length <= LIM then .ok (.tup ws) st else .bad
def mkLst (ws : List W) (st : List Cell) : R W := if ws.length <= LIM then .ok (.loc st.length) (st ++ [.lst ws]) else .bad
def eTup (fs : FA) : FE := fun ρ st => (fs ρ st).bind fun ws st => mkTup ws st
def eLst (fs : FA) : FE := fun ρ st => (fs ρ st).bind fun ws st => mkLst ws st
theorem StR.newLst {K : PySem.W.Frag} {mg : Str -> Option Value} {μ : List Addr} {st : List Cell} {H : Hp} (S : StR K mg μ st H) {p : Addr} {ws : List W} {vs : List V} (hp : H p = none) (r : RelWs K μ H ws vs) : StR K mg (μ ++ [p]) (st ++ [.lst ws]) (upd H p (.lst vs)) :=
  S.push hp ⟨vs, upd_same, r.mono (List.prefix_append _ _) (SqT.same (same_new hp _))⟩
theorem newLoc {K : PySem.W.Frag} {mg : Str -> Option Value} {μ : List Addr} {st : List Cell} {H H' : Hp} (S : StR K mg μ st H) {p : Addr} : RelW K (μ ++ [p]) H' (.loc st.length) (.ref p) := .locI (by rw [S.len]; simp)
theorem mkTup_ok {μ : List Addr} {st : List Cell} {σ : St} {H : Hp} {Q : VK} {ws : List W} {vs : List V} (S : StR X.K X.mg μ st H) (q : RelWs X.K μ H ws vs) (h : RK X (relW X) μ σ H Q (mkTup ws st)) : vs.length <= sizeLine /\ ∀ p H2, H p = none -> H2 = upd H p (.tup vs) -> Q (.ref p) H2 := by
  unfold mkTup at h
  by_cases hz : ws.length <= LIM
  · rw [if_pos hz] at h
    refine ⟨by rw [<- q.len]; exact lim_le hz, fun p H2 hp e => ?_⟩
    subst e
    have x := SqT.same (K := X.K) (same_new hp (.tup vs))
    exact h μ _ _ (List.prefix_refl _) x (S.same (same_new hp _)) (.tupI SqT.new (q.mono (List.prefix_refl _) x))
  · rw [if_neg hz] at h; exact h.elim
theorem mkLst_ok {μ : List Addr} {st : List Cell} {σ : St} {H : Hp} {Q : VK} {ws : List W} {vs : List V} (S : StR X.K X.mg μ st H) (q : RelWs X.K μ H ws vs) (h : RK X (relW X) μ σ H Q (mkLst ws st)) : vs.length <= sizeLine /\ ∀ p H2, H p = none -> H2 = upd H p (.lst vs) -> Q (.ref p) H2 := by
  unfold mkLst at h
  by_cases hz : ws.length <= LIM
  · rw [if_pos hz] at h
    refine ⟨by rw [<- q.len]; exact lim_le hz, fun p H2 hp e => ?_⟩
    subst e
    exact h (μ ++ [p]) _ _ (List.prefix_append _ _) (SqT.same (same_new hp _)) (S.newLst hp q) (newLoc S)
  · rw [if_neg hz] at h; exact h.elim
theorem s_tup {k : Nat} (h : SA X es fs) : SE X (.Tuple es k pos) (eTup fs) := ⟨(pe_tupF h.h).imp fun σ H Q h => by
  obtain ⟨μ, ρ, st, l, h⟩ := h
  exact ⟨μ, ρ, st, l, RK.bind h l fun μ1 st1 x v H1 p1 x1 l1 q1 h1 => mkTup_ok l1.sto q1 h1⟩⟩
theorem s_lst (h : SA X es fs) : SE X (.List es pos) (eLst fs) := ⟨(pe_lstF h.h).imp fun σ H Q h => by
  obtain ⟨μ, ρ, st, l, h⟩ := h
  exact ⟨μ, ρ, st, l, RK.bind h l fun μ1 st1 x v H1 p1 x1 l1 q1 h1 => mkLst_ok l1.sto q1 h1⟩⟩
end
end L2
set_option Elab.async false
set_option linter.all false
set_option maxRecDepth 100000
set_option maxHeartbeats 4000000
namespace L2
open PySem PySem.Spec PyProof.Rows
section
variable {X : Cx}
theorem okW_int {μ : List Addr} {st : List Cell} {H : Hp} {Q : VK} {i : Int} (S : StR X.K X.mg μ st H) (h : OkW X μ H Q (.ok (.int i) st)) : Q (.int i) H := h μ _ H (List.prefix_refl _) Ext.refl S .int
theorem okW_bl {μ : List Addr} {st : List Cell} {H : Hp} {Q : VK} {i : Bool} (S : StR X.K X.mg μ st H) (h : OkW X μ H Q (.ok (.bl i) st)) : Q (.bl i) H := h μ _ H (List.prefix_refl _) Ext.refl S .bl
theorem okW_str {μ : List Addr} {st : List Cell} {H : Hp} {Q : VK} {i : List Nat} (S : StR X.K X.mg μ st H) (h : OkW X μ H Q (.ok (.str i) st)) : Q (.str (tx i)) H := h μ _ H (List.prefix_refl _) Ext.refl S .str
theorem okW_rk {μ : List Addr} {σ : St} {H : Hp} {Q : VK} {r : R W} (h : OkW X μ H Q r) : RK X (relW X) μ σ H Q r := by
  cases r with
  | ok a st => exact h
  | ex c st => exact h.elim
  | bad => exact h
def wII (C : Int -> Int -> Prop) [∀ i j, Decidable (C i j)] (f : Int -> Int -> Int) : W -> W -> List Cell -> R W
  | .int i, .int j, st => if C i j then .ok (.int (f i j)) st else .bad
  | _, _, _ => .bad
theorem opII {g : Value -> Value -> Sem Value} {C C' : Int -> Int -> Prop} [∀ i j, Decidable (C' i j)] {f : Int -> Int -> Int} (h : OpR X g (rI C fun i j => .int (f i j))) (hC : ∀ i j, C' i j -> C i j) : OpW X g (wII C' f) := ⟨h.imp fun x y H Q ⟨μ, st, wx, wy, S, rx, ry, q⟩ => by
  cases wx with
  | int i =>
    cases wy with
    | int j =>
      simp only [wII] at q
      by_cases c : C' i j
      · rw [if_pos c] at q; exact ⟨i, j, rx.intE, ry.intE, hC i j c, okW_int S q⟩
      · rw [if_neg c] at q; exact q.elim
    | _ => exact q.elim
  | _ => cases wy <;> exact q.elim, fun x y st => by
  unfold wII
  split
  · split <;> trivial
  · trivial⟩
def wCmp (f : Int -> Int -> Bool) : W -> W -> List Cell -> R W
  | .int i, .int j, st => .ok (.bl (f i j)) st
  | _, _, _ => .bad
theorem opCmp {g : Value -> Value -> Sem Value} {f : Int -> Int -> Bool} (h : OpR X g (rI0 fun i j => .bl (f i j))) : OpW X g (wCmp f) := ⟨h.imp fun x y H Q ⟨μ, st, wx, wy, S, rx, ry, q⟩ => by
  cases wx with
  | int i =>
    cases wy with
    | int j => exact ⟨i, j, rx.intE, ry.intE, okW_bl S q⟩
    | _ => exact q.elim
  | _ => cases wy <;> exact q.elim, fun x y st => by
  unfold wCmp
  split <;> trivial⟩
abbrev cMul (i j : Int) : Prop := (-(2 ^ 64) < i /\ i < 2 ^ 64) \/ (-(2 ^ 64) < j /\ j < 2 ^ 64)
abbrev wSub := wII (fun _ _ => True) fun i j => i - j
abbrev wMul := wII cMul fun i j => i * j
abbrev wMod := wII (fun _ j => 0 < j) fun i j => i % j
abbrev wFdiv := wII (fun _ j => 0 < j /\ j < 1073741824) fun i j => i / j
abbrev wPow := wII (fun i j => 0 <= j /\ j <= 1000000 /\ i.natAbs < 2 ^ 64) fun i j => i ^ j.toNat
abbrev wShr := wII (fun _ j => 0 <= j) fun i j => i / 2 ^ j.toNat
abbrev wBand := wII (fun _ _ => True) fun i j => Builtin.bitAnd i j
theorem rI0_rI {g : Value -> Value -> Sem Value} {f : Int -> Int -> V} (h : OpR X g (rI0 f)) : OpR X g (rI (fun _ _ => True) f) := h.imp fun _ _ _ _ ⟨i, j, a, b, _, q⟩ => ⟨i, j, a, b, q⟩
theorem w_sub : OpW X (binaryOp .Sub) wSub := opII (rI0_rI op_sub) fun _ _ _ => trivial
theorem w_mul : OpW X (binaryOp .Mult) wMul := opII op_mul fun _ _ h => h
theorem w_mod : OpW X (binaryOp .Mod) wMod := opII op_mod fun _ _ h => h
theorem w_fdiv : OpW X (binaryOp .FloorDiv) wFdiv := opII op_fdiv fun _ _ h => h
theorem w_pow : OpW X (binaryOp .Pow) wPow := opII op_pow fun _ _ h => h
theorem w_shr : OpW X (binaryOp .RShift) wShr := opII op_shr fun _ _ h => h
theorem w_band : OpW X (binaryOp .BitAnd) wBand := opII (rI0_rI op_and) fun _ _ _ => trivial
def wAdd : W -> W -> List Cell -> R W
  | .int i, .int j, st => .ok (.int (i + j)) st
  | .str a, .str b, st => if a.length + b.length <= LIM then .ok (.str (a ++ b)) st else .bad
  | .tup a, .tup b, st => mkTup (a ++ b) st
  | .loc n, .loc m, st => match st[n]?, st[m]? with
    | some (.lst a), some (.lst b) => mkLst (a ++ b) st
    | _, _ => .bad
  | _, _, _ => .bad
theorem mkTup_n (ws : List W) (st : List Cell) : noEx (mkTup ws st) := by unfold mkTup; split <;> trivial
theorem mkLst_n (ws : List W) (st : List Cell) : noEx (mkLst ws st) := by unfold mkLst; split <;> trivial
theorem w_add : OpW X (binaryOp .Add) wAdd := ⟨fun pins s σ H x y v u Q I rv ru ⟨μ, st, wx, wy, S, rx, ry, q⟩ => by
  cases wx with
  | int i =>
    cases wy with
    | int j => exact op_add pins s σ H x y v u Q I rv ru ⟨i, j, rx.intE, ry.intE, okW_int S q⟩
    | _ => exact q.elim
  | str a =>
    cases wy with
    | str b =>
      simp only [wAdd] at q
      by_cases c : a.length + b.length <= LIM
      · rw [if_pos c] at q
        exact op_add_str pins s σ H x y v u Q I rv ru ⟨_, _, rx.strE, ry.strE, by rw [tx_len, tx_len]; exact lim_le c, by rw [tx_app]; exact okW_str S q⟩
      · rw [if_neg c] at q; exact q.elim
    | _ => exact q.elim
  | tup a =>
    cases wy with
    | tup b =>
      obtain ⟨p1, vs1, rfl, h1, r1⟩ := rx.tupE
      obtain ⟨p2, vs2, rfl, h2, r2⟩ := ry.tupE
      have q' : OkW X μ H Q (mkTup (a ++ b) st) := q
      unfold mkTup at q'
      by_cases c : (a ++ b).length <= LIM
      · rw [if_pos c] at q'
        refine o_catA.h pins s σ H _ _ v u Q I rv ru ⟨p1, p2, vs1, vs2, rfl, rfl, h1, h2, by rw [<- r1.len, <- r2.len, <- List.length_append]; exact lim_le c, fun p H2 e t => ?_⟩
        exact q' μ _ _ (List.prefix_refl _) (SqT.same e) (S.same e) (.tupI t ((r1.app r2).mono (List.prefix_refl _) (SqT.same e)))
      · rw [if_neg c] at q'; exact q'.elim
    | _ => exact q.elim
  | loc n =>
    cases wy with
    | loc m =>
      simp only [wAdd] at q
      cases e1 : st[n]? with
      | none => rw [e1] at q; exact q.elim
      | some c1 =>
        cases e2 : st[m]? with
        | none => rw [e1, e2] at q; cases c1 <;> exact q.elim
        | some c2 =>
          cases c1 with
          | lst a =>
            cases c2 with
            | lst b =>
              rw [e1, e2] at q
              obtain ⟨a1, g1, vs1, k1, r1⟩ := S.get e1
              obtain ⟨a2, g2, vs2, k2, r2⟩ := S.get e2
              obtain ⟨b1, f1, rfl⟩ := rx.locE
              obtain ⟨b2, f2, rfl⟩ := ry.locE
              rw [g1] at f1; cases f1
              rw [g2] at f2; cases f2
              obtain ⟨hz, qq⟩ := mkLst_ok (σ := σ) S (r1.app r2) (okW_rk q)
              exact op_catF pins s σ H _ _ v u Q I rv ru ⟨a1, a2, vs1, vs2, rfl, rfl, k1, k2, by rw [<- List.length_append]; exact hz, qq⟩
            | _ => rw [e1, e2] at q; exact q.elim
          | _ => rw [e1, e2] at q; exact q.elim
    | _ => exact q.elim
  | _ => cases wy <;> exact q.elim, fun x y st => by
  unfold wAdd
  split
  · trivial
  · split <;> trivial
  · exact mkTup_n _ _
  · split
    · exact mkLst_n _ _
    · trivial
  · trivial⟩
abbrev wLt' := wCmp fun i j => decide (i < j)
abbrev wGt := wCmp fun i j => decide (j < i)
abbrev wGe := wCmp fun i j => decide (j <= i)
theorem w_lt : OpW X (compareOp .Lt) wLt' := opCmp op_lt
theorem w_gt : OpW X (compareOp .Gt) wGt := opCmp op_gt
theorem w_ge : OpW X (compareOp .GtE) wGe := opCmp op_ge
end
end L2
set_option Elab.async false
set_option linter.all false
set_option maxRecDepth 100000
set_option maxHeartbeats 4000000
namespace L2
open PySem PySem.Spec PyProof.Rows
mutual
def eqW : W -> W -> Option Bool
  | .non, .non => some true
  | .bl a, .bl b => some (a == b)
  | .bl a, .int b => some ((if a then 1 else 0) == b)
  | .int a, .bl b => some (a == (if b then 1 else 0))
  | .int a, .int b => some (a == b)
  | .str a, .str b => some (a == b)
  | .tup a, .tup b => eqWs a b
  | .loc _, _ => none
  | .non, .loc _ => none
  | .bl _, .loc _ => none
  | .int _, .loc _ => none
  | .str _, .loc _ => none
  | .tup _, .loc _ => none
  | .non, .bl _ => some false
  | .non, .int _ => some false
  | .non, .str _ => some false
  | .non, .tup _ => some false
  | .bl _, .non => some false
  | .bl _, .str _ => some false
  | .bl _, .tup _ => some false
  | .int _, .non => some false
  | .int _, .str _ => some false
  | .int _, .tup _ => some false
  | .str _, .non => some false
  | .str _, .bl _ => some false
  | .str _, .int _ => some false
  | .str _, .tup _ => some false
  | .tup _, .non => some false
  | .tup _, .bl _ => some false
  | .tup _, .int _ => some false
  | .tup _, .str _ => some false
def eqWs : List W -> List W -> Option Bool
  | [], [] => some true
  | [], _ :: _ => some false
  | _ :: _, [] => some false
  | x :: xs, y :: ys => match eqW x y, eqWs xs ys with
    | some a, some b => some (a && b)
    | _, _ => none
end
mutual
def W.dep : W -> Nat
  | .tup ws => depWs ws + 1
  | _ => 0
def depWs : List W -> Nat
  | [] => 0
  | w :: ws => max w.dep (depWs ws)
end
theorem eqWs_range : ∀ (xs ys : List W) (b : Bool), eqWs xs ys = some b -> ∃ e : Nat -> Bool, (∀ j (h1 : j < xs.length) (h2 : j < ys.length), eqW xs[j] ys[j] = some (e j)) /\ ((List.range (min xs.length ys.length)).all e && xs.length == ys.length) = b
  | [], [], b, h => by unfold eqWs at h; cases h; exact ⟨fun _ => true, fun j h1 => absurd h1 (Nat.not_lt_zero _), rfl⟩
  | [], y :: ys, b, h => by unfold eqWs at h; cases h; exact ⟨fun _ => true, fun j h1 => absurd h1 (Nat.not_lt_zero _), by simp⟩
  | x :: xs, [], b, h => by unfold eqWs at h; cases h; exact ⟨fun _ => true, fun j _ h1 => absurd h1 (Nat.not_lt_zero _), by simp⟩
  | x :: xs, y :: ys, b, h => by
    unfold eqWs at h
    cases e1 : eqW x y with
    | none => rw [e1] at h; simp at h
    | some a =>
      cases e2 : eqWs xs ys with
      | none => rw [e1, e2] at h; simp at h
      | some c =>
        rw [e1, e2] at h
        simp at h
        obtain ⟨e, he, hb⟩ := eqWs_range xs ys c e2
        refine ⟨fun j => match j with | 0 => a | j + 1 => e j, fun j h1 h2 => ?_, ?_⟩
        · cases j with
          | zero => exact e1
          | succ j => exact he j (Nat.lt_of_succ_lt_succ h1) (Nat.lt_of_succ_lt_succ h2)
        · have m : min (x :: xs).length (y :: ys).length = min xs.length ys.length + 1 := by simp only [List.length_cons]; omega
          rw [m, List.range_succ_eq_map, List.all_cons, List.all_map, <- h, <- hb]
          simp [Function.comp_def, Bool.and_assoc]
theorem eqW_self {X : Cx} {pins : List (Addr × Obj)} {σ : St} {H : Hp} {s : Shared} {μ : List Addr} (I : Inv X pins σ H s) : ∀ (n : Nat) (a b : W) (x : V) (k : Bool), a.dep <= n -> RelW X.K μ H a x -> RelW X.K μ H b x -> eqW a b = some k -> k = true := by
  intro n
  induction n with
  | zero =>
    intro a b x k hn ra rb he
    cases a with
    | tup i => unfold W.dep at hn; omega
    | non => cases ra.nonE; cases b <;> first | (unfold eqW at he; cases he; rfl) | cases rb.blE | cases rb.intE | cases rb.strE | (obtain ⟨_, _, z, _⟩ := rb.tupE; cases z) | (unfold eqW at he; cases he)
    | bl i => cases ra.blE; cases b <;> first | (cases rb.blE; unfold eqW at he; simp at he; exact he) | cases rb.nonE | cases rb.intE | cases rb.strE | (obtain ⟨_, _, z, _⟩ := rb.tupE; cases z) | (unfold eqW at he; cases he)
    | int i => cases ra.intE; cases b <;> first | (cases rb.intE; unfold eqW at he; simp at he; exact he) | cases rb.nonE | cases rb.blE | cases rb.strE | (obtain ⟨_, _, z, _⟩ := rb.tupE; cases z) | (unfold eqW at he; cases he)
    | str i => cases ra.strE; cases b <;> first | (have z := rb.strE; injection z with z; rw [tx_inj.mp z] at he; unfold eqW at he; simp at he; exact he) | cases rb.nonE | cases rb.blE | cases rb.intE | (obtain ⟨_, _, z, _⟩ := rb.tupE; cases z) | (unfold eqW at he; cases he)
    | loc i => cases b <;> (unfold eqW at he; cases he)
  | succ n ih =>
    intro a b x k hn ra rb he
    cases a with
    | non => cases ra.nonE; cases b <;> first | (unfold eqW at he; cases he; rfl) | cases rb.blE | cases rb.intE | cases rb.strE | (obtain ⟨_, _, z, _⟩ := rb.tupE; cases z) | (unfold eqW at he; cases he)
    | bl i => cases ra.blE; cases b <;> first | (cases rb.blE; unfold eqW at he; simp at he; exact he) | cases rb.nonE | cases rb.intE | cases rb.strE | (obtain ⟨_, _, z, _⟩ := rb.tupE; cases z) | (unfold eqW at he; cases he)
    | int i => cases ra.intE; cases b <;> first | (cases rb.intE; unfold eqW at he; simp at he; exact he) | cases rb.nonE | cases rb.blE | cases rb.strE | (obtain ⟨_, _, z, _⟩ := rb.tupE; cases z) | (unfold eqW at he; cases he)
    | str i => cases ra.strE; cases b <;> first | (have z := rb.strE; injection z with z; rw [tx_inj.mp z] at he; unfold eqW at he; simp at he; exact he) | cases rb.nonE | cases rb.blE | cases rb.intE | (obtain ⟨_, _, z, _⟩ := rb.tupE; cases z) | (unfold eqW at he; cases he)
    | loc i => cases b <;> (unfold eqW at he; cases he)
    | tup i =>
      obtain ⟨p', vs', rfl, hS', r'⟩ := ra.tupE
      cases b with
      | tup z =>
        obtain ⟨p, vs, e, hS, r⟩ := rb.tupE
        cases e
        obtain rfl := I.tuple_inj hS hS'
        have he' : eqWs i z = some k := by unfold eqW at he; exact he
        have dn : depWs i <= n := by unfold W.dep at hn; omega
        have key : ∀ (i z : List W) (vs : List V) (k : Bool), depWs i <= n -> RelWs X.K μ H i vs -> RelWs X.K μ H z vs -> eqWs i z = some k -> k = true := by
          intro i
          induction i with
          | nil =>
            intro z vs k _ r' r he
            have e1 := r'.nilE
            subst e1
            cases z with
            | nil => unfold eqWs at he; cases he; rfl
            | cons _ _ => have e2 := r.len; simp at e2
          | cons w i ih2 =>
            intro z vs k dn r' r he
            obtain ⟨x, xs, rfl, rx, rxs⟩ := r'.consE
            cases z with
            | nil => have e2 := r.len; simp at e2
            | cons y z =>
              obtain ⟨x2, xs2, e3, ry, rys⟩ := r.consE
              cases e3
              unfold eqWs at he
              cases e1 : eqW w y with
              | none => rw [e1] at he; simp at he
              | some k1 =>
                cases e2 : eqWs i z with
                | none => rw [e1, e2] at he; simp at he
                | some k2 =>
                  rw [e1, e2] at he
                  simp at he
                  unfold depWs at dn
                  have q1 := ih w y x k1 (by omega) rx ry e1
                  have q2 := ih2 z xs k2 (by omega) rxs rys e2
                  rw [<- he, q1, q2]; rfl
        exact key i z _ k dn r' r he'
      | non => cases rb.nonE
      | bl z => cases rb.blE
      | int z => cases rb.intE
      | str z => cases rb.strE
      | loc z => unfold eqW at he; cases he
theorem depWs_get : ∀ {ws : List W} {j : Nat} (h : j < ws.length), ws[j].dep <= depWs ws
  | w :: ws, 0, _ => by unfold depWs; exact Nat.le_max_left _ _
  | w :: ws, j + 1, h => by unfold depWs; exact Nat.le_trans (depWs_get (j := j) (Nat.lt_of_succ_lt_succ h)) (Nat.le_max_right _ _)
theorem eqAt_step {X : Cx} {pins : List (Addr × Obj)} {σ : St} {H : Hp} {s : Shared} {μ : List Addr} (I : Inv X pins σ H s) (n : Nat)
    (ih : ∀ m, m + 1 = n -> ∀ (a b : W) (A : Around) (x y : V) (u v : Value) (k : Bool), a.dep <= m -> RelW X.K μ H a x -> RelW X.K μ H b y -> RelV x u -> RelV y v -> A.units + m < cLine -> eqW a b = some k -> SeqAt.EqAt A s u v k) :
    ∀ (a b : W) (A : Around) (x y : V) (u v : Value) (k : Bool), a.dep <= n -> RelW X.K μ H a x -> RelW X.K μ H b y -> RelV x u -> RelV y v -> A.units + n < cLine -> eqW a b = some k -> SeqAt.EqAt A s u v k := by
  intro a b A x y u v k hn ra rb ru rv hu he
  have hu0 : A.units < cLine := by omega
  cases a with
  | non =>
    cases ra.nonE; cases ru
    cases b with
    | non => cases rb.nonE; cases rv; unfold eqW at he; cases he; exact SeqAt.EqAt.same _
    | bl z => cases rb.blE; cases rv; unfold eqW at he; cases he; exact SeqAt.EqAt.none_bool z
    | int z => cases rb.intE; obtain ⟨t, rfl⟩ := rv; unfold eqW at he; cases he; exact SeqAt.EqAt.none_int z t
    | str z => cases rb.strE; obtain ⟨t, rfl⟩ := rv; unfold eqW at he; cases he; exact SeqAt.EqAt.none_str _ t
    | tup z => obtain ⟨p, vs, rfl, hS, _⟩ := rb.tupE; cases rv; obtain ⟨its, _, ht, _⟩ := I.tuple hS; unfold eqW at he; cases he; exact SeqAt.EqAt.none_tuple ht hu0
    | loc z => unfold eqW at he; cases he
  | bl i =>
    cases ra.blE; cases ru
    cases b with
    | non => cases rb.nonE; cases rv; unfold eqW at he; cases he; exact SeqAt.EqAt.bool_none i
    | bl z => cases rb.blE; cases rv; unfold eqW at he; cases he; exact SeqAt.EqAt.bool_bool i z
    | int z => cases rb.intE; obtain ⟨t, rfl⟩ := rv; unfold eqW at he; cases he; exact SeqAt.EqAt.bool_int i z t
    | str z => cases rb.strE; obtain ⟨t, rfl⟩ := rv; unfold eqW at he; cases he; exact SeqAt.EqAt.bool_str i _ t
    | tup z => obtain ⟨p, vs, rfl, hS, _⟩ := rb.tupE; cases rv; obtain ⟨its, _, ht, _⟩ := I.tuple hS; unfold eqW at he; cases he; exact SeqAt.EqAt.bool_tuple i ht hu0
    | loc z => unfold eqW at he; cases he
  | int i =>
    cases ra.intE; obtain ⟨t', rfl⟩ := ru
    cases b with
    | non => cases rb.nonE; cases rv; unfold eqW at he; cases he; exact SeqAt.EqAt.int_none i t'
    | bl z => cases rb.blE; cases rv; unfold eqW at he; cases he; exact SeqAt.EqAt.int_bool i t' z
    | int z => cases rb.intE; obtain ⟨t, rfl⟩ := rv; unfold eqW at he; cases he; exact SeqAt.EqAt.int_int i t' z t
    | str z => cases rb.strE; obtain ⟨t, rfl⟩ := rv; unfold eqW at he; cases he; exact SeqAt.EqAt.int_str i t' _ t
    | tup z => obtain ⟨p, vs, rfl, hS, _⟩ := rb.tupE; cases rv; obtain ⟨its, _, ht, _⟩ := I.tuple hS; unfold eqW at he; cases he; exact SeqAt.EqAt.int_tuple i t' ht hu0
    | loc z => unfold eqW at he; cases he
  | str i =>
    cases ra.strE; obtain ⟨t', rfl⟩ := ru
    cases b with
    | non => cases rb.nonE; cases rv; unfold eqW at he; cases he; exact SeqAt.EqAt.str_none _ t'
    | bl z => cases rb.blE; cases rv; unfold eqW at he; cases he; exact SeqAt.EqAt.str_bool _ t' z
    | int z => cases rb.intE; obtain ⟨t, rfl⟩ := rv; unfold eqW at he; cases he; exact SeqAt.EqAt.str_int _ t' z t
    | str z =>
      cases rb.strE; obtain ⟨t, rfl⟩ := rv; unfold eqW at he; cases he
      have := SeqAt.EqAt.str_str (A := A) (s := s) (tx i) t' (tx z) t
      rw [<- SeqAt.str_beq] at this
      exact this
    | tup z => obtain ⟨p, vs, rfl, hS, _⟩ := rb.tupE; cases rv; obtain ⟨its, _, ht, _⟩ := I.tuple hS; unfold eqW at he; cases he; exact SeqAt.EqAt.str_tuple _ t' ht hu0
    | loc z => unfold eqW at he; cases he
  | tup i =>
    obtain ⟨p', vs', rfl, hS', r'⟩ := ra.tupE; cases ru; obtain ⟨its', w', ht', _⟩ := I.tuple hS'
    cases b with
    | non => cases rb.nonE; cases rv; unfold eqW at he; cases he; exact SeqAt.EqAt.tuple_none ht' hu0
    | bl z => cases rb.blE; cases rv; unfold eqW at he; cases he; exact SeqAt.EqAt.tuple_bool z ht' hu0
    | int z => cases rb.intE; obtain ⟨t, rfl⟩ := rv; unfold eqW at he; cases he; exact SeqAt.EqAt.tuple_int z t ht' hu0
    | str z => cases rb.strE; obtain ⟨t, rfl⟩ := rv; unfold eqW at he; cases he; exact SeqAt.EqAt.tuple_str _ t ht' hu0
    | tup z =>
      obtain ⟨p, vs, rfl, hS, r⟩ := rb.tupE; cases rv; obtain ⟨its, w, ht, _⟩ := I.tuple hS
      have he' : eqWs i z = some k := by unfold eqW at he; exact he
      by_cases hpp : p' = p
      · subst hpp
        rw [eqW_self I n (.tup i) (.tup z) (.ref p') k hn ra rb he]
        exact SeqAt.EqAt.same _
      · obtain ⟨e, h1, h2⟩ := eqWs_range i z k he'
        have l1 : its'.length = i.length := by rw [<- w'.length, <- r'.len]
        have l2 : its.length = z.length := by rw [<- w.length, <- r.len]
        have hd : depWs i + 1 <= n := by unfold W.dep at hn; exact hn
        obtain ⟨m, rfl⟩ : ∃ m, n = m + 1 := ⟨n - 1, by omega⟩
        have R := SeqAt.RcAt.tuples (A := A) (e := e) ht' ht hu0 (fun j j1 j2 => by
          have j1' : j < i.length := by rw [<- l1]; simpa using j1
          have j2' : j < z.length := by rw [<- l2]; simpa using j2
          obtain ⟨x1, g1, q1⟩ := r'.get (List.getElem?_eq_getElem j1')
          obtain ⟨x2, g2, q2⟩ := r.get (List.getElem?_eq_getElem j2')
          obtain ⟨u1, f1, v1⟩ := w'.get g1
          obtain ⟨u2, f2, v2⟩ := w.get g2
          have E := ih m rfl i[j] z[j] A.in1 x1 x2 u1 u2 (e j) (Nat.le_trans (depWs_get j1') (by omega)) q1 q2 v1 v2 (by show A.units + 1 + m < cLine; omega) (h1 j j1' j2')
          have t1 : its'.toArray[j] = u1 := by
            have := (List.getElem?_eq_some_iff.mp f1).2
            simpa using this
          have t2 : its.toArray[j] = u2 := by
            have := (List.getElem?_eq_some_iff.mp f2).2
            simpa using this
          rw [t1, t2]; exact E)
        have sz1 : its'.toArray.size = i.length := by simp [l1]
        have sz2 : its.toArray.size = z.length := by simp [l2]
        rw [sz1, sz2, h2] at R
        exact SeqAt.EqAt.of_refs hpp R
    | loc z => unfold eqW at he; cases he
  | loc i => cases b <;> (unfold eqW at he; cases he)
theorem eqAt_W {X : Cx} {pins : List (Addr × Obj)} {σ : St} {H : Hp} {s : Shared} {μ : List Addr} (I : Inv X pins σ H s) : ∀ (n : Nat) (a b : W) (A : Around) (x y : V) (u v : Value) (k : Bool), a.dep <= n -> RelW X.K μ H a x -> RelW X.K μ H b y -> RelV x u -> RelV y v -> A.units + n < cLine -> eqW a b = some k -> SeqAt.EqAt A s u v k := by
  intro n
  induction n with
  | zero => exact eqAt_step I 0 fun m h => absurd h (by omega)
  | succ n ih => exact eqAt_step I (n + 1) fun m h => (show m = n by omega) ▸ ih
theorem rcAt_W {X : Cx} {pins : List (Addr × Obj)} {σ : St} {H : Hp} {s : Shared} {μ : List Addr} (I : Inv X pins σ H s) (n : Nat) :
    ∀ (a b : W) (A : Around) (x y : V) (u v : Value) (k : Bool), (b.dep = 0 \/ a.dep <= n) -> RelW X.K μ H a x -> RelW X.K μ H b y -> RelV x u -> RelV y v -> A.units + n < cLine -> eqW a b = some k -> SeqAt.RcAt A s u v k := by
  intro a b A x y u v k hn ra rb ru rv hu he
  have hu0 : A.units < cLine := by omega
  cases a with
  | non =>
    cases ra.nonE; cases ru
    cases b with
    | non => cases rb.nonE; cases rv; unfold eqW at he; cases he; exact SeqAt.RcAt.none_none
    | bl z => cases rb.blE; cases rv; unfold eqW at he; cases he; exact SeqAt.RcAt.none_bool z
    | int z => cases rb.intE; obtain ⟨t, rfl⟩ := rv; unfold eqW at he; cases he; exact SeqAt.RcAt.none_int z t
    | str z => cases rb.strE; obtain ⟨t, rfl⟩ := rv; unfold eqW at he; cases he; exact SeqAt.RcAt.none_str _ t
    | tup z => obtain ⟨p, vs, rfl, hS, _⟩ := rb.tupE; cases rv; obtain ⟨its, _, ht, _⟩ := I.tuple hS; unfold eqW at he; cases he; exact SeqAt.RcAt.none_tuple ht hu0
    | loc z => unfold eqW at he; cases he
  | bl i =>
    cases ra.blE; cases ru
    cases b with
    | non => cases rb.nonE; cases rv; unfold eqW at he; cases he; exact SeqAt.RcAt.bool_none i
    | bl z => cases rb.blE; cases rv; unfold eqW at he; cases he; exact SeqAt.RcAt.bool_bool i z
    | int z => cases rb.intE; obtain ⟨t, rfl⟩ := rv; unfold eqW at he; cases he; exact SeqAt.RcAt.bool_int i z t
    | str z => cases rb.strE; obtain ⟨t, rfl⟩ := rv; unfold eqW at he; cases he; exact SeqAt.RcAt.bool_str i _ t
    | tup z => obtain ⟨p, vs, rfl, hS, _⟩ := rb.tupE; cases rv; obtain ⟨its, _, ht, _⟩ := I.tuple hS; unfold eqW at he; cases he; exact SeqAt.RcAt.bool_tuple i ht hu0
    | loc z => unfold eqW at he; cases he
  | int i =>
    cases ra.intE; obtain ⟨t', rfl⟩ := ru
    cases b with
    | non => cases rb.nonE; cases rv; unfold eqW at he; cases he; exact SeqAt.RcAt.int_none i t'
    | bl z => cases rb.blE; cases rv; unfold eqW at he; cases he; exact SeqAt.RcAt.int_bool i t' z
    | int z => cases rb.intE; obtain ⟨t, rfl⟩ := rv; unfold eqW at he; cases he; exact SeqAt.RcAt.int_int i t' z t
    | str z => cases rb.strE; obtain ⟨t, rfl⟩ := rv; unfold eqW at he; cases he; exact SeqAt.RcAt.int_str i t' _ t
    | tup z => obtain ⟨p, vs, rfl, hS, _⟩ := rb.tupE; cases rv; obtain ⟨its, _, ht, _⟩ := I.tuple hS; unfold eqW at he; cases he; exact SeqAt.RcAt.int_tuple i t' ht hu0
    | loc z => unfold eqW at he; cases he
  | str i =>
    cases ra.strE; obtain ⟨t', rfl⟩ := ru
    cases b with
    | non => cases rb.nonE; cases rv; unfold eqW at he; cases he; exact SeqAt.RcAt.str_none _ t'
    | bl z => cases rb.blE; cases rv; unfold eqW at he; cases he; exact SeqAt.RcAt.str_bool _ t' z
    | int z => cases rb.intE; obtain ⟨t, rfl⟩ := rv; unfold eqW at he; cases he; exact SeqAt.RcAt.str_int _ t' z t
    | str z =>
      cases rb.strE; obtain ⟨t, rfl⟩ := rv; unfold eqW at he; cases he
      have := SeqAt.RcAt.str_str (A := A) (s := s) (tx i) t' (tx z) t
      rw [<- SeqAt.str_beq] at this
      exact this
    | tup z => obtain ⟨p, vs, rfl, hS, _⟩ := rb.tupE; cases rv; obtain ⟨its, _, ht, _⟩ := I.tuple hS; unfold eqW at he; cases he; exact SeqAt.RcAt.str_tuple _ t' ht hu0
    | loc z => unfold eqW at he; cases he
  | tup i =>
    obtain ⟨p', vs', rfl, hS', r'⟩ := ra.tupE; cases ru; obtain ⟨its', w', ht', _⟩ := I.tuple hS'
    cases b with
    | non => cases rb.nonE; cases rv; unfold eqW at he; cases he; exact SeqAt.RcAt.tuple_none ht' hu0
    | bl z => cases rb.blE; cases rv; unfold eqW at he; cases he; exact SeqAt.RcAt.tuple_bool z ht' hu0
    | int z => cases rb.intE; obtain ⟨t, rfl⟩ := rv; unfold eqW at he; cases he; exact SeqAt.RcAt.tuple_int z t ht' hu0
    | str z => cases rb.strE; obtain ⟨t, rfl⟩ := rv; unfold eqW at he; cases he; exact SeqAt.RcAt.tuple_str _ t ht' hu0
    | tup z =>
      obtain ⟨p, vs, rfl, hS, r⟩ := rb.tupE; cases rv; obtain ⟨its, w, ht, _⟩ := I.tuple hS
      have he' : eqWs i z = some k := by unfold eqW at he; exact he
      obtain ⟨e, h1, h2⟩ := eqWs_range i z k he'
      have l1 : its'.length = i.length := by rw [<- w'.length, <- r'.len]
      have l2 : its.length = z.length := by rw [<- w.length, <- r.len]
      have hd : depWs i + 1 <= n := by
        rcases hn with hn | hn
        · unfold W.dep at hn; omega
        · unfold W.dep at hn; exact hn
      obtain ⟨m, rfl⟩ : ∃ m, n = m + 1 := ⟨n - 1, by omega⟩
      have R := SeqAt.RcAt.tuples (A := A) (e := e) ht' ht hu0 (fun j j1 j2 => by
        have j1' : j < i.length := by rw [<- l1]; simpa using j1
        have j2' : j < z.length := by rw [<- l2]; simpa using j2
        obtain ⟨x1, g1, q1⟩ := r'.get (List.getElem?_eq_getElem j1')
        obtain ⟨x2, g2, q2⟩ := r.get (List.getElem?_eq_getElem j2')
        obtain ⟨u1, f1, v1⟩ := w'.get g1
        obtain ⟨u2, f2, v2⟩ := w.get g2
        have E := eqAt_W I m i[j] z[j] A.in1 x1 x2 u1 u2 (e j) (Nat.le_trans (depWs_get j1') (by omega)) q1 q2 v1 v2 (by show A.units + 1 + m < cLine; omega) (h1 j j1' j2')
        have t1 : its'.toArray[j] = u1 := by
          have := (List.getElem?_eq_some_iff.mp f1).2
          simpa using this
        have t2 : its.toArray[j] = u2 := by
          have := (List.getElem?_eq_some_iff.mp f2).2
          simpa using this
        rw [t1, t2]; exact E)
      have sz1 : its'.toArray.size = i.length := by simp [l1]
      have sz2 : its.toArray.size = z.length := by simp [l2]
      rw [sz1, sz2, h2] at R
      exact R
    | loc z => unfold eqW at he; cases he
  | loc i => cases b <;> (unfold eqW at he; cases he)
def wEq : W -> W -> List Cell -> R W := fun x y st => match eqW x y with
  | some k => if y.dep = 0 \/ x.dep <= 64 then .ok (.bl k) st else .bad
  | none => .bad
theorem w_eq {X : Cx} {k : Nat} (hr : Room k X.A) : OpW X (compareOp .Eq) wEq := ⟨fun pins s σ H x y v u Q I rv ru ⟨μ, st, wx, wy, S, rx, ry, q⟩ => by
  unfold wEq at q
  cases e : eqW wx wy with
  | none => rw [e] at q; exact q.elim
  | some b =>
    rw [e] at q
    simp only at q
    by_cases c : wy.dep = 0 \/ wx.dep <= 64
    · rw [if_pos c] at q
      have := hr.units
      exact rcAt_W I 64 wx wy X.A x y v u b c rx ry rv ru this e X.prog X.w X.xe _ ⟨.bl b, H, I, rfl, okW_bl S q⟩
    · rw [if_neg c] at q; exact q.elim, fun x y st => by
  unfold wEq
  split
  · split <;> trivial
  · trivial⟩
theorem rcNeAt_W {X : Cx} {pins : List (Addr × Obj)} {σ : St} {H : Hp} {s : Shared} {μ : List Addr} (I : Inv X pins σ H s) (n : Nat) :
    ∀ (a b : W) (A : Around) (x y : V) (u v : Value) (k : Bool), (b.dep = 0 \/ a.dep <= n) -> RelW X.K μ H a x -> RelW X.K μ H b y -> RelV x u -> RelV y v -> A.units + n < cLine -> eqW a b = some k -> SeqAt.RcNeAt A s u v (!k) := by
  intro a b A x y u v k hn ra rb ru rv hu he
  have hu0 : A.units < cLine := by omega
  cases a with
  | non =>
    cases ra.nonE; cases ru
    cases b with
    | non => cases rb.nonE; cases rv; unfold eqW at he; cases he; exact SeqAt.RcNeAt.none_none
    | bl z => cases rb.blE; cases rv; unfold eqW at he; cases he; exact SeqAt.RcNeAt.none_bool z
    | int z => cases rb.intE; obtain ⟨t, rfl⟩ := rv; unfold eqW at he; cases he; exact SeqAt.RcNeAt.none_int z t
    | str z => cases rb.strE; obtain ⟨t, rfl⟩ := rv; unfold eqW at he; cases he; exact SeqAt.RcNeAt.none_str _ t
    | tup z => obtain ⟨p, vs, rfl, hS, _⟩ := rb.tupE; cases rv; obtain ⟨its, _, ht, _⟩ := I.tuple hS; unfold eqW at he; cases he; exact SeqAt.RcNeAt.none_tuple ht hu0
    | loc z => unfold eqW at he; cases he
  | bl i =>
    cases ra.blE; cases ru
    cases b with
    | non => cases rb.nonE; cases rv; unfold eqW at he; cases he; exact SeqAt.RcNeAt.bool_none i
    | bl z => cases rb.blE; cases rv; unfold eqW at he; cases he; exact SeqAt.RcNeAt.bool_bool i z
    | int z => cases rb.intE; obtain ⟨t, rfl⟩ := rv; unfold eqW at he; cases he; exact SeqAt.RcNeAt.bool_int i z t
    | str z => cases rb.strE; obtain ⟨t, rfl⟩ := rv; unfold eqW at he; cases he; exact SeqAt.RcNeAt.bool_str i _ t
    | tup z => obtain ⟨p, vs, rfl, hS, _⟩ := rb.tupE; cases rv; obtain ⟨its, _, ht, _⟩ := I.tuple hS; unfold eqW at he; cases he; exact SeqAt.RcNeAt.bool_tuple i ht hu0
    | loc z => unfold eqW at he; cases he
  | int i =>
    cases ra.intE; obtain ⟨t', rfl⟩ := ru
    cases b with
    | non => cases rb.nonE; cases rv; unfold eqW at he; cases he; exact SeqAt.RcNeAt.int_none i t'
    | bl z => cases rb.blE; cases rv; unfold eqW at he; cases he; exact SeqAt.RcNeAt.int_bool i t' z
    | int z => cases rb.intE; obtain ⟨t, rfl⟩ := rv; unfold eqW at he; cases he; exact SeqAt.RcNeAt.int_int i t' z t
    | str z => cases rb.strE; obtain ⟨t, rfl⟩ := rv; unfold eqW at he; cases he; exact SeqAt.RcNeAt.int_str i t' _ t
    | tup z => obtain ⟨p, vs, rfl, hS, _⟩ := rb.tupE; cases rv; obtain ⟨its, _, ht, _⟩ := I.tuple hS; unfold eqW at he; cases he; exact SeqAt.RcNeAt.int_tuple i t' ht hu0
    | loc z => unfold eqW at he; cases he
  | str i =>
    cases ra.strE; obtain ⟨t', rfl⟩ := ru
    cases b with
    | non => cases rb.nonE; cases rv; unfold eqW at he; cases he; exact SeqAt.RcNeAt.str_none _ t'
    | bl z => cases rb.blE; cases rv; unfold eqW at he; cases he; exact SeqAt.RcNeAt.str_bool _ t' z
    | int z => cases rb.intE; obtain ⟨t, rfl⟩ := rv; unfold eqW at he; cases he; exact SeqAt.RcNeAt.str_int _ t' z t
    | str z =>
      cases rb.strE; obtain ⟨t, rfl⟩ := rv; unfold eqW at he; cases he
      have := SeqAt.RcNeAt.str_str (A := A) (s := s) (tx i) t' (tx z) t
      rw [<- SeqAt.str_beq] at this
      exact this
    | tup z => obtain ⟨p, vs, rfl, hS, _⟩ := rb.tupE; cases rv; obtain ⟨its, _, ht, _⟩ := I.tuple hS; unfold eqW at he; cases he; exact SeqAt.RcNeAt.str_tuple _ t' ht hu0
    | loc z => unfold eqW at he; cases he
  | tup i =>
    obtain ⟨p', vs', rfl, hS', r'⟩ := ra.tupE; cases ru; obtain ⟨its', w', ht', _⟩ := I.tuple hS'
    cases b with
    | non => cases rb.nonE; cases rv; unfold eqW at he; cases he; exact SeqAt.RcNeAt.tuple_none ht' hu0
    | bl z => cases rb.blE; cases rv; unfold eqW at he; cases he; exact SeqAt.RcNeAt.tuple_bool z ht' hu0
    | int z => cases rb.intE; obtain ⟨t, rfl⟩ := rv; unfold eqW at he; cases he; exact SeqAt.RcNeAt.tuple_int z t ht' hu0
    | str z => cases rb.strE; obtain ⟨t, rfl⟩ := rv; unfold eqW at he; cases he; exact SeqAt.RcNeAt.tuple_str _ t ht' hu0
    | tup z =>
      obtain ⟨p, vs, rfl, hS, r⟩ := rb.tupE; cases rv; obtain ⟨its, w, ht, _⟩ := I.tuple hS
      have he' : eqWs i z = some k := by unfold eqW at he; exact he
      obtain ⟨e, h1, h2⟩ := eqWs_range i z k he'
      have l1 : its'.length = i.length := by rw [<- w'.length, <- r'.len]
      have l2 : its.length = z.length := by rw [<- w.length, <- r.len]
      have hd : depWs i + 1 <= n := by
        rcases hn with hn | hn
        · unfold W.dep at hn; omega
        · unfold W.dep at hn; exact hn
      obtain ⟨m, rfl⟩ : ∃ m, n = m + 1 := ⟨n - 1, by omega⟩
      have R := SeqAt.RcNeAt.tuples (A := A) (e := e) ht' ht hu0 (fun j j1 j2 => by
        have j1' : j < i.length := by rw [<- l1]; simpa using j1
        have j2' : j < z.length := by rw [<- l2]; simpa using j2
        obtain ⟨x1, g1, q1⟩ := r'.get (List.getElem?_eq_getElem j1')
        obtain ⟨x2, g2, q2⟩ := r.get (List.getElem?_eq_getElem j2')
        obtain ⟨u1, f1, v1⟩ := w'.get g1
        obtain ⟨u2, f2, v2⟩ := w.get g2
        have E := eqAt_W I m i[j] z[j] A.in1 x1 x2 u1 u2 (e j) (Nat.le_trans (depWs_get j1') (by omega)) q1 q2 v1 v2 (by show A.units + 1 + m < cLine; omega) (h1 j j1' j2')
        have t1 : its'.toArray[j] = u1 := by
          have := (List.getElem?_eq_some_iff.mp f1).2
          simpa using this
        have t2 : its.toArray[j] = u2 := by
          have := (List.getElem?_eq_some_iff.mp f2).2
          simpa using this
        rw [t1, t2]; exact E)
      have sz1 : its'.toArray.size = i.length := by simp [l1]
      have sz2 : its.toArray.size = z.length := by simp [l2]
      rw [sz1, sz2, h2] at R
      exact R
    | loc z => unfold eqW at he; cases he
  | loc i => cases b <;> (unfold eqW at he; cases he)
def wNe : W -> W -> List Cell -> R W := fun x y st => match eqW x y with
  | some k => if y.dep = 0 \/ x.dep <= 64 then .ok (.bl (!k)) st else .bad
  | none => .bad
theorem w_ne {X : Cx} {k : Nat} (hr : Room k X.A) : OpW X (compareOp .NotEq) wNe := ⟨fun pins s σ H x y v u Q I rv ru ⟨μ, st, wx, wy, S, rx, ry, q⟩ => by
  unfold wNe at q
  cases e : eqW wx wy with
  | none => rw [e] at q; exact q.elim
  | some b =>
    rw [e] at q
    simp only at q
    by_cases c : wy.dep = 0 \/ wx.dep <= 64
    · rw [if_pos c] at q
      have := hr.units
      exact rcNeAt_W I 64 wx wy X.A x y v u b c rx ry rv ru this e X.prog X.w X.xe _ ⟨.bl (!b), H, I, rfl, okW_bl S q⟩
    · rw [if_neg c] at q; exact q.elim, fun x y st => by
  unfold wNe
  split
  · split <;> trivial
  · trivial⟩
def anyW (x : W) : List W -> Option Bool
  | [] => some false
  | y :: ys => match eqW y x, anyW x ys with
    | some a, some b => some (a || b)
    | _, _ => none
def wIn (neg : Bool) (x y : W) (st : List Cell) : R W := match y with
  | .str l => (match x with
    | .str [c] => .ok (.bl (if neg then !decide (c ∈ l) else decide (c ∈ l))) st
    | _ => .bad)
  | .tup ys => (match anyW x ys with
    | some k => if depWs ys <= 63 then .ok (.bl (if neg then !k else k)) st else .bad
    | none => .bad)
  | .loc n => (match st[n]? with
    | some (.lst ys) => (match anyW x ys with
      | some k => if depWs ys <= 63 then .ok (.bl (if neg then !k else k)) st else .bad
      | none => .bad)
    | _ => .bad)
  | _ => .bad
theorem anyW_all {x : W} : ∀ {ys : List W} {k : Bool}, anyW x ys = some k -> (∀ (j : Nat) w, ys[j]? = some w -> ∃ b, eqW w x = some b) /\ (k = true ↔ ∃ (j : Nat) (w : W), ys[j]? = some w /\ eqW w x = some true)
  | [], k, h => by
    unfold anyW at h; cases h
    exact ⟨fun j w e => by simp at e, fun z => (by cases z), fun ⟨j, w, e, _⟩ => (by simp at e)⟩
  | y :: ys, k, h => by
    unfold anyW at h
    cases e1 : eqW y x with
    | none => rw [e1] at h; simp at h
    | some a =>
      cases e2 : anyW x ys with
      | none => rw [e1, e2] at h; simp at h
      | some b =>
        rw [e1, e2] at h
        simp at h
        obtain ⟨q1, q2⟩ := anyW_all e2
        refine ⟨fun j w e => ?_, fun z => ?_, fun ⟨j, w, e, f⟩ => ?_⟩
        · cases j with
          | zero => simp at e; subst e; exact ⟨a, e1⟩
          | succ j => exact q1 j w (by simpa using e)
        · rw [<- h] at z
          cases a with
          | true => exact ⟨0, y, rfl, e1⟩
          | false =>
            obtain ⟨j, w, p, q⟩ := q2.mp (by simpa using z)
            exact ⟨j + 1, w, by simpa using p, q⟩
        · rw [<- h]
          cases j with
          | zero => simp at e; subst e; rw [e1] at f; cases f; rfl
          | succ j => rw [q2.mpr ⟨j, w, by simpa using e, f⟩]; simp
theorem anyW_items {X : Cx} {pins : List (Addr × Obj)} {σ : St} {H : Hp} {s : Shared} {μ : List Addr} (I : Inv X pins σ H s) {wx : W} {x : V} {v : Value} (rx : RelW X.K μ H wx x) (rv : RelV x v) (n : Nat) {A : Around} (hu : A.units + n < cLine)
    {ys : List W} {vs : List V} {us : List Value} {k : Bool} (hd : depWs ys <= n) (rs : RelWs X.K μ H ys vs) (rw' : Vals vs us) (ha : anyW wx ys = some k) : ∃ e : Value -> Bool, (∀ u, u ∈ us.toArray -> SeqAt.EqAt A s u v (e u)) /\ us.toArray.any e = k := by
  classical
  obtain ⟨q1, q2⟩ := anyW_all ha
  have at' : ∀ (j : Nat) (u : Value), us[j]? = some u -> ∃ w b, ys[j]? = some w /\ eqW w wx = some b /\ SeqAt.EqAt A s u v b := fun j u e => by
    have hj : j < ys.length := by
      have h1 := (List.getElem?_eq_some_iff.mp e).1
      rw [rs.len, rw'.length]; exact h1
    obtain ⟨b, hb⟩ := q1 j ys[j] (List.getElem?_eq_getElem hj)
    obtain ⟨y, g1, r1⟩ := rs.get (List.getElem?_eq_getElem hj)
    obtain ⟨u', f1, v1⟩ := rw'.get g1
    rw [e] at f1; cases f1
    exact ⟨_, b, List.getElem?_eq_getElem hj, hb, eqAt_W I n ys[j] wx A y x u v b (Nat.le_trans (depWs_get hj) hd) r1 rx v1 rv hu hb⟩
  refine ⟨fun u => decide (∃ (j : Nat) (w : W), us[j]? = some u /\ ys[j]? = some w /\ eqW w wx = some true), fun u hu => ?_, ?_⟩
  · by_cases c : ∃ (j : Nat) (w : W), us[j]? = some u /\ ys[j]? = some w /\ eqW w wx = some true
    · show SeqAt.EqAt A s u v (decide _)
      rw [decide_eq_true c]
      obtain ⟨j, w, e1, e2, e3⟩ := c
      obtain ⟨w', b, f1, f2, f3⟩ := at' j u e1
      rw [e2] at f1; cases f1
      rw [e3] at f2; cases f2
      exact f3
    · show SeqAt.EqAt A s u v (decide _)
      rw [decide_eq_false c]
      obtain ⟨j, hj, e⟩ := List.mem_iff_getElem.mp (show u ∈ us by simpa using hu)
      have e' : us[j]? = some u := by rw [List.getElem?_eq_getElem hj, e]
      obtain ⟨w', b, f1, f2, f3⟩ := at' j u e'
      cases b with
      | false => exact f3
      | true => exact absurd ⟨j, w', e', f1, f2⟩ c
  · rw [List.any_toArray]
    cases k with
    | true =>
      obtain ⟨j, w, e1, e2⟩ := q2.mp rfl
      have hj : j < us.length := by rw [<- rw'.length, <- rs.len]; exact (List.getElem?_eq_some_iff.mp e1).1
      exact List.any_eq_true.mpr ⟨us[j], List.getElem_mem hj, decide_eq_true ⟨j, w, List.getElem?_eq_getElem hj, e1, e2⟩⟩
    | false =>
      refine List.any_eq_false.mpr fun u _ c => ?_
      obtain ⟨j, w, _, e1, e2⟩ := of_decide_eq_true c
      have := q2.mpr ⟨j, w, e1, e2⟩
      cases this
theorem w_in {X : Cx} {k : Nat} (hr : Room k X.A) : OpW X (compareOp .In) (wIn false) := ⟨fun pins s σ H x y v u Q I rv ru ⟨μ, st, wx, wy, S, rx, ry, q⟩ => by
  have hu := hr.units
  cases wy with
  | str l =>
    simp only [wIn] at q
    split at q
    · exact op_in_one pins s σ H x y v u Q I rv ru ⟨_, _, rx.strE, ry.strE, okW_bl S q⟩
    · exact q.elim
  | tup ys =>
    simp only [wIn] at q
    cases hk : anyW wx ys with
    | none => rw [hk] at q; exact q.elim
    | some kk =>
      rw [hk] at q
      simp only at q
      by_cases c : depWs ys <= 63
      · rw [if_pos c] at q
        obtain ⟨p, vs, rfl, hS, r⟩ := ry.tupE
        cases ru
        obtain ⟨its, w, ht, _⟩ := I.tuple hS
        obtain ⟨e, he, ha⟩ := anyW_items (A := X.A.in1) I rx rv 63 (by show X.A.units + 1 + 63 < cLine; omega) c r w hk
        exact SeqAt.in_tupleAt e ht he ⟨.bl _, H, I, rfl, by rw [ha]; exact okW_bl S q⟩
      · rw [if_neg c] at q; exact q.elim
  | loc n =>
    simp only [wIn] at q
    cases e1 : st[n]? with
    | none => rw [e1] at q; exact q.elim
    | some cc =>
      rw [e1] at q
      cases cc with
      | lst ys =>
        simp only at q
        cases hk : anyW wx ys with
        | none => rw [hk] at q; exact q.elim
        | some kk =>
          rw [hk] at q
          simp only at q
          by_cases c : depWs ys <= 63
          · rw [if_pos c] at q
            obtain ⟨a1, g1, vs, k1, r⟩ := S.get e1
            obtain ⟨b1, f1, rfl⟩ := ry.locE
            rw [g1] at f1; cases f1
            cases ru
            obtain ⟨its, w, ht, _⟩ := I.list (SqL.of k1)
            obtain ⟨e, he, ha⟩ := anyW_items (A := X.A.in1) I rx rv 63 (by show X.A.units + 1 + 63 < cLine; omega) c r w hk
            exact SeqAt.in_listAt e ht.isList he ⟨.bl _, H, I, rfl, by rw [ha]; exact okW_bl S q⟩
          · rw [if_neg c] at q; exact q.elim
      | _ => exact q.elim
  | _ => exact q.elim, fun x y st => by
  unfold wIn
  repeat' split
  all_goals trivial⟩
theorem w_nin {X : Cx} {k : Nat} (hr : Room k X.A) : OpW X (compareOp .NotIn) (wIn true) := ⟨fun pins s σ H x y v u Q I rv ru ⟨μ, st, wx, wy, S, rx, ry, q⟩ => by
  have hu := hr.units
  cases wy with
  | str l =>
    simp only [wIn] at q
    split at q
    · exact op_notin_one pins s σ H x y v u Q I rv ru ⟨_, _, rx.strE, ry.strE, okW_bl S q⟩
    · exact q.elim
  | tup ys =>
    simp only [wIn] at q
    cases hk : anyW wx ys with
    | none => rw [hk] at q; exact q.elim
    | some kk =>
      rw [hk] at q
      simp only at q
      by_cases c : depWs ys <= 63
      · rw [if_pos c] at q
        obtain ⟨p, vs, rfl, hS, r⟩ := ry.tupE
        cases ru
        obtain ⟨its, w, ht, _⟩ := I.tuple hS
        obtain ⟨e, he, ha⟩ := anyW_items (A := X.A.in1) I rx rv 63 (by show X.A.units + 1 + 63 < cLine; omega) c r w hk
        exact SeqAt.notIn_tupleAt e ht he ⟨.bl _, H, I, rfl, by rw [ha]; exact okW_bl S q⟩
      · rw [if_neg c] at q; exact q.elim
  | loc n =>
    simp only [wIn] at q
    cases e1 : st[n]? with
    | none => rw [e1] at q; exact q.elim
    | some cc =>
      rw [e1] at q
      cases cc with
      | lst ys =>
        simp only at q
        cases hk : anyW wx ys with
        | none => rw [hk] at q; exact q.elim
        | some kk =>
          rw [hk] at q
          simp only at q
          by_cases c : depWs ys <= 63
          · rw [if_pos c] at q
            obtain ⟨a1, g1, vs, k1, r⟩ := S.get e1
            obtain ⟨b1, f1, rfl⟩ := ry.locE
            rw [g1] at f1; cases f1
            cases ru
            obtain ⟨its, w, ht, _⟩ := I.list (SqL.of k1)
            obtain ⟨e, he, ha⟩ := anyW_items (A := X.A.in1) I rx rv 63 (by show X.A.units + 1 + 63 < cLine; omega) c r w hk
            exact SeqAt.notIn_listAt e ht.isList he ⟨.bl _, H, I, rfl, by rw [ha]; exact okW_bl S q⟩
          · rw [if_neg c] at q; exact q.elim
      | _ => exact q.elim
  | _ => exact q.elim, fun x y st => by
  unfold wIn
  repeat' split
  all_goals trivial⟩
end L2
set_option Elab.async false
set_option linter.all false
set_option maxRecDepth 100000
set_option maxHeartbeats 4000000
namespace L2
open PySem PySem.Spec PyProof.Rows
section
variable {prog : Program} {w : World} {A : Around} {E : Value -> Shared -> Prop} {s : Shared}
theorem slice_whole {t sl : Addr} {items : Array Value} {vl vu : Value} {lo hi : Option Int} {Q : Value -> Shared -> Prop} (ht : IsTup s.heap t items) (hs : s.heap.IsSliceOf sl vl vu .none) (pl : IsPart vl lo) (pu : IsPart vu hi)
    (hw : HT.sIx items.size 0 lo = 0 /\ HT.sIx items.size items.size hi = items.size) (h : Q (.ref t) s) : wpAny (model prog w) A (getItem (.ref t) (.ref sl)) Q E s := by
  obtain ⟨os, hos, hcs, hds⟩ := id hs
  have hTs : s.TypeIs (.ref sl) "slice" := ⟨os, hos, hcs⟩
  unfold getItem
  try with_reducible refine wpAny_holding ?_
  first | refine wpAny_bind (wpAny_pure ?_) | skip
  refine wpAny_bind (wpAny_sequenceKey ht.typeIs (by decide) ?_)
  refine wpAny_bind (wpAny_callSpecial?_slot (name := Str.ofString "__getitem__") ht.typeIs PyProof.Rows.slot_tuple_getitem
    (wpAny_call_entry PyProof.Rows.slot_tuple_getitem ht.typeIs entry_tuple_getitem ?_ (args_tuple_getitem _ _)))
  show wpAny _ _ (Builtin.Tuple.tupleItemsOf (.ref t) >>= _) _ _ s
  refine wpAny_bind (tupleItemsOf_ ht ?_)
  refine wpAny_bind (wpAny_typeOf hTs ?_)
  rw [if_pos (by decide)]
  refine wpAny_bind (HT.sliceApplied_gen hs pl pu ?_)
  have hyes : (((HT.sIx items.size 0 lo : Nat) : Int) == 0 && (1 : Int) == 1 && (HT.sIx items.size items.size hi - HT.sIx items.size 0 lo) == items.size) = true := by
    rw [hw.1, hw.2]; simp
  show wpAny _ _ (if (((HT.sIx items.size 0 lo : Nat) : Int) == 0 && (1 : Int) == 1 && (HT.sIx items.size items.size hi - HT.sIx items.size 0 lo) == items.size) = true then _ else _) _ _ s
  rw [if_pos hyes]
  unfold Builtin.Tuple.tupleIsExact
  obtain ⟨ot, hot, hct, nt, hdt⟩ := id ht
  refine wpAny_bind (wpAny_bind (wpAny_typeOf (T := "tuple") ht.typeIs ?_))
  refine wpAny_pure ?_
  rw [if_pos (by decide)]
  exact wpAny_bind (wpAny_rule (wpAny_pure ⟨_, rfl, wpAny_pure h⟩))
end
section
variable {X : Cx} {a b c e o : Expr} {es : List Expr} {pos p p2 apos cpos : Pos} {x name : Str} {j : Nat} {fa fb fc fe : FE} {fs : FA}
def lstOf (st : List Cell) (n : Nat) : Option (List W) := match st[n]? with
  | some (.lst ws) => some ws
  | some (.ro ws) => some ws
  | _ => none
theorem StR.lstOf {K : PySem.W.Frag} {mg : Str -> Option Value} {μ : List Addr} {st : List Cell} {H : Hp} (S : StR K mg μ st H) {n : Nat} {ws : List W} (h : lstOf st n = some ws) : ∃ a vs, μ[n]? = some a /\ SqL K H a vs /\ RelWs K μ H ws vs := by
  unfold L2.lstOf at h
  cases e : st[n]? with
  | none => rw [e] at h; cases h
  | some cc =>
    rw [e] at h
    cases cc with
    | lst zs => cases h; obtain ⟨a, g, vs, k, r⟩ := S.get e; exact ⟨a, vs, g, SqL.of k, r⟩
    | ro zs => cases h; obtain ⟨a, g, vs, k, r⟩ := S.get e; exact ⟨a, vs, g, k.sq, r⟩
    | exc zs => cases h
def ofO {α : Type} (o : Option α) (k : α -> R W) : R W := match o with
  | some a => k a
  | none => .bad
@[simp] theorem ofO_some {α : Type} (a : α) (k : α -> R W) : ofO (some a) k = k a := rfl
@[simp] theorem ofO_none {α : Type} (k : α -> R W) : ofO none k = .bad := rfl
def wIx (x y : W) (st : List Cell) : R W := match x, y with
  | .tup ws, .int i => ofO (atI ws i) fun w => .ok w st
  | .str l, .int i => if l.length <= LIM then ofO (atI l i) (fun c => .ok (.str [c]) st) else .bad
  | .loc n, .int i => ofO (lstOf st n) fun ws => ofO (atI ws i) fun w => .ok w st
  | _, _ => .bad
theorem atI_rel {K : PySem.W.Frag} {μ : List Addr} {H : Hp} {ws : List W} {vs : List V} {i : Int} {w : W} (r : RelWs K μ H ws vs) (h : atI ws i = some w) : ∃ v, atI vs i = some v /\ RelW K μ H w v := by
  unfold atI at h ⊢
  rw [<- r.len]
  cases e : ixN ws.length i with
  | none => rw [e] at h; cases h
  | some k => rw [e] at h; exact r.get h
theorem w_ix : IxR X (rW2 X wIx) := fun value slice pins s σ H x y v u Q I rv ru ⟨μ, st, wx, wy, S, rx, ry, q⟩ hs => by
  refine ix_seq value slice pins s σ H x y v u Q I rv ru ?_ hs
  cases wy with
  | int i =>
    cases wx with
    | tup ws =>
      simp only [wIx] at q
      cases e1 : atI ws i with
      | none => rw [e1] at q; exact q.elim
      | some w =>
        rw [e1] at q
        obtain ⟨p, vs, rfl, hS, r⟩ := rx.tupE
        obtain ⟨z, f, g⟩ := atI_rel r e1
        exact .inr (.inl ⟨p, vs, i, z, rfl, ry.intE, hS, f, q μ z H (List.prefix_refl _) Ext.refl S g⟩)
    | str l =>
      simp only [wIx] at q
      by_cases c : l.length <= LIM
      · rw [if_pos c] at q
        cases e1 : atI l i with
        | none => rw [e1] at q; exact q.elim
        | some w =>
          rw [e1] at q
          exact .inr (.inr ⟨_, i, w, rx.strE, ry.intE, by rw [tx_len]; exact lim_le c, by rw [tx_cps]; exact e1, okW_str S q⟩)
      · rw [if_neg c] at q; exact q.elim
    | loc n =>
      simp only [wIx] at q
      cases e0 : lstOf st n with
      | none => rw [e0] at q; exact q.elim
      | some ws =>
        rw [e0] at q
        cases e1 : atI ws i with
        | none => rw [ofO_some, e1] at q; exact q.elim
        | some w =>
          rw [ofO_some, e1] at q
          obtain ⟨a, vs, g, hS, r⟩ := S.lstOf e0
          obtain ⟨b1, f1, rfl⟩ := rx.locE
          rw [g] at f1; cases f1
          obtain ⟨z, f, g⟩ := atI_rel r e1
          exact .inl ⟨_, vs, i, z, rfl, ry.intE, hS, f, q μ z H (List.prefix_refl _) Ext.refl S g⟩
    | _ => exact q.elim
  | _ => cases wx <;> exact q.elim
theorem ofO_n {α : Type} {o : Option α} {k : α -> R W} (h : ∀ a, noEx (k a)) : noEx (ofO o k) := by
  unfold ofO
  split
  · exact h _
  · trivial
theorem wIx_n (x y : W) (st : List Cell) : noEx (wIx x y st) := by
  unfold wIx
  split
  · exact ofO_n fun _ => trivial
  · split
    · exact ofO_n fun _ => trivial
    · trivial
  · exact ofO_n fun _ => ofO_n fun _ => trivial
  · trivial
theorem s_ix (ha : SE X a fa) (hb : SE X b fb) (hs : PlainIx b := by intro _ _; rfl) : SE X (.Subscript a b pos) (e2 wIx fa fb) := ⟨(pe_ix w_ix ha.h hb.h hs).imp fun _ _ _ h => e2_op wIx_n h⟩
abbrev FO := EnvW -> List Cell -> R (Option Int)
abbrev relO : List Addr -> Hp -> Option Int -> Option Int -> Prop := fun _ _ a b => a = b
structure SO (X : Cx) (e : Option Expr) (f : FO) : Prop where
  h : PO X e (tG X relO f)
def oNone : FO := fun _ st => .ok none st
def oSome (fa : FE) : FO := fun ρ st => (fa ρ st).bind fun x st => match x with
  | .int i => .ok (some i) st
  | _ => .bad
theorem PO.imp {X : Cx} {e : Option Expr} {t t' : TO} (h : PO X e t) (i : ∀ σ H Q, t' σ H Q -> t σ H Q) : PO X e t' := fun pins s σ H Q I q => h pins s σ H Q I (i _ _ _ q)
theorem so_none : SO X none oNone := ⟨po_none.imp fun σ H Q h => by
  obtain ⟨μ, ρ, st, l, h⟩ := h
  exact h μ none H (List.prefix_refl _) Ext.refl l.sto rfl⟩
theorem so_some (ha : SE X a fa) : SO X (some a) (oSome fa) := ⟨(po_some ha.h).imp fun σ H Q h => by
  obtain ⟨μ, ρ, st, l, h⟩ := h
  refine ⟨μ, ρ, st, l, RK.bind h l fun μ1 st1 x v H1 p1 x1 l1 q1 h1 => ?_⟩
  cases x with
  | int k => exact ⟨k, q1.intE, h1 μ1 _ H1 (List.prefix_refl _) Ext.refl l1.sto rfl⟩
  | _ => exact h1.elim⟩
def cutW {α : Type} (xs : List α) (lo hi : Option Int) : List α := (xs.drop (HT.sIx xs.length 0 lo)).take (HT.sIx xs.length xs.length hi - HT.sIx xs.length 0 lo)
def wSl (x : W) (lo hi : Option Int) (st : List Cell) : R W := match x with
  | .tup ws => .ok (.tup (cutW ws lo hi)) st
  | .str l => if l.length <= LIM then .ok (.str (cutW l lo hi)) st else .bad
  | .loc n => ofO (lstOf st n) fun ws => .ok (.loc st.length) (st ++ [.lst (cutW ws lo hi)])
  | _ => .bad
theorem wSl_n (x : W) (lo hi : Option Int) (st : List Cell) : noEx (wSl x lo hi st) := by
  unfold wSl ofO
  repeat' split
  all_goals trivial
def eSl (fa : FE) (fl fh : FO) : FE := fun ρ st => (fa ρ st).bind fun x st => (fl ρ st).bind fun l st => (fh ρ st).bind fun h st => wSl x l h st
theorem w_sl : SlR X (fun x lo hi H Q => ∃ μ st wx, StR X.K X.mg μ st H /\ RelW X.K μ H wx x /\ OkW X μ H Q (wSl wx lo hi st)) := by
  intro pins s σ H x v vl vu lo hi sl Q I rv hs pl pu ⟨μ, st, wx, S, rx, q⟩
  cases wx with
  | tup ws =>
    obtain ⟨p, vs, rfl, hS, r⟩ := rx.tupE
    have hl := r.len
    by_cases hw : HT.sIx vs.length 0 lo = 0 /\ HT.sIx vs.length vs.length hi = vs.length
    · cases rv
      obtain ⟨its, w, ht, hz⟩ := I.tuple hS
      have hlen : its.toArray.size = vs.length := by rw [List.size_toArray]; exact w.length.symm
      refine ⟨"tuple", _, PyProof.Rows.slot_tuple_getitem.lookup, ht.typeIs, slice_whole ht hs pl pu (by rw [hlen]; exact hw) ⟨.ref p, H, I, rfl, ?_⟩⟩
      have e : cutW ws lo hi = ws := by
        unfold cutW
        rw [hl, hw.1, hw.2, List.drop_zero, Nat.sub_zero, <- hl, List.take_length]
      have q' : OkW X μ H Q (.ok (.tup (cutW ws lo hi)) st) := q
      rw [e] at q'
      exact q' μ _ H (List.prefix_refl _) Ext.refl S rx
    · refine sl_tup pins s σ H _ v vl vu lo hi sl Q I rv hs pl pu ⟨p, vs, rfl, hS, hw, fun p2 hp2 => ?_⟩
      have x := SqT.same (K := X.K) (same_new hp2 (.tup (cutV vs lo hi)))
      have rc : RelWs X.K μ H (cutW ws lo hi) (cutV vs lo hi) := by
        unfold cutW cutV
        rw [hl]
        exact (r.drop _).take _
      exact q μ _ _ (List.prefix_refl _) x (S.same (same_new hp2 _)) (.tupI SqT.new (rc.mono (List.prefix_refl _) x))
  | str l =>
    simp only [wSl] at q
    by_cases c : l.length <= LIM
    · rw [if_pos c] at q
      exact sl_str pins s σ H _ v vl vu lo hi sl Q I rv hs pl pu ⟨l, rx.strE, lim_le c, okW_str S q⟩
    · rw [if_neg c] at q; exact q.elim
  | loc n =>
    simp only [wSl] at q
    cases e0 : lstOf st n with
    | none => rw [e0] at q; exact q.elim
    | some ws =>
      rw [e0] at q
      obtain ⟨a, vs, g, hS, r⟩ := S.lstOf e0
      obtain ⟨b1, f1, rfl⟩ := rx.locE
      rw [g] at f1; cases f1
      have hl := r.len
      refine sl_list pins s σ H _ v vl vu lo hi sl Q I rv hs pl pu ⟨_, vs, rfl, hS, fun p2 hp2 => ?_⟩
      have rc : RelWs X.K μ H (cutW ws lo hi) (cutV vs lo hi) := by
        unfold cutW cutV
        rw [hl]
        exact (r.drop _).take _
      exact q (μ ++ [p2]) _ _ (List.prefix_append _ _) (SqT.same (same_new hp2 _)) (S.newLst hp2 rc) (newLoc S)
  | _ => exact q.elim
theorem s_sl {lo hi : Option Expr} {fl fh : FO} (ha : SE X a fa) (hl : SO X lo fl) (hh : SO X hi fh) : SE X (.Subscript a (.Slice lo hi none p2) pos) (eSl fa fl fh) := ⟨(pe_slice w_sl ha.h hl.h hh.h).imp fun σ H Q h => by
  obtain ⟨μ, ρ, st, l, h⟩ := h
  refine ⟨μ, ρ, st, l, RK.bind h l fun μ1 st1 x v H1 p1 x1 l1 q1 h1 => ⟨μ1, ρ, st1, l1, RK.bind h1 l1 fun μ2 st2 y u H2 p2 x2 l2 q2 h2 => ⟨μ2, ρ, st2, l2, RK.bind h2 l2 fun μ3 st3 z t H3 p3 x3 l3 q3 h3 => ?_⟩⟩⟩
  cases q2; cases q3
  exact ⟨μ3, st3, x, l3.sto, (q1.mono p2 x2).mono p3 x3, okW_of h3 (wSl_n _ _ _ _)⟩⟩
def rWA (X : Cx) (F : List W -> List Cell -> R W) : List V -> Hp -> VK -> Prop := fun vs H Q => ∃ μ st ws, StR X.K X.mg μ st H /\ RelWs X.K μ H ws vs /\ OkW X μ H Q (F ws st)
structure CallW (X : Cx) (f : Value) (F : List W -> List Cell -> R W) : Prop where
  h : CallR X f (rWA X F)
  n : ∀ ws st, noEx (F ws st)
def eCall (F : List W -> List Cell -> R W) (fs : FA) : FE := fun ρ st => (fs ρ st).bind fun ws st => F ws st
theorem eCall_t {F : List W -> List Cell -> R W} {σ : St} {H : Hp} {Q : VK} (n : ∀ ws st, noEx (F ws st)) (h : tE X (eCall F fs) σ H Q) : tCB (rWA X F) (tA' X fs) σ H Q := by
  obtain ⟨μ, ρ, st, l, h⟩ := h
  exact ⟨μ, ρ, st, l, RK.bind h l fun μ1 st1 x v H1 p1 x1 l1 q1 h1 => ⟨μ1, st1, x, l1.sto, q1, okW_of h1 (n _ _)⟩⟩
theorem s_callB {id : String} {F : List W -> List Cell -> R W} (hc : CallW X (.builtin id) F) (hm : X.mg x = none) (hv : bootBuiltins x = some (.builtin id)) (ha : SA X (e :: es) fs) (hg : Gl X x := by rfl) (hn : x ≠ "__name__" := by decide) (hdb : (x == ("__debug__" : Str)) = false := by decide)
    (he : starEach (e :: es) X.env = (false, eval e X.env) :: starEach es X.env := by rfl) (hpl : (backTo pos (starEach es X.env)).any (·.1) = false := by rfl) : SE X (.Call (.Name x p) (e :: es) [] pos) (eCall F fs) := ⟨(pe_callB hc.h hg hm hv ha.h hn hdb he hpl).imp fun _ _ _ h => eCall_t hc.n h⟩
theorem s_callTy {T : String} {F : List W -> List Cell -> R W} (hc : CallW X (.type T) F) (hm : X.mg x = none) (hv : bootBuiltins x = some (.type T)) (ha : SA X (e :: es) fs) (hg : Gl X x := by rfl) (hn : x ≠ "__name__" := by decide) (hdb : (x == ("__debug__" : Str)) = false := by decide)
    (he : starEach (e :: es) X.env = (false, eval e X.env) :: starEach es X.env := by rfl) (hpl : (backTo pos (starEach es X.env)).any (·.1) = false := by rfl) : SE X (.Call (.Name x p) (e :: es) [] pos) (eCall F fs) := ⟨(pe_callTy hc.h hg hm hv ha.h hn hdb he hpl).imp fun _ _ _ h => eCall_t hc.n h⟩
theorem RelWs.two {K : PySem.W.Frag} {μ : List Addr} {H : Hp} {a b : W} {vs : List V} (r : RelWs K μ H [a, b] vs) : ∃ x y, vs = [x, y] /\ RelW K μ H a x /\ RelW K μ H b y := by
  obtain ⟨x, xs, rfl, rx, rn⟩ := r.consE
  obtain ⟨y, ys, rfl, ry, rm⟩ := rn.consE
  rw [rm.nilE]; exact ⟨x, y, rfl, rx, ry⟩
theorem RelWs.one {K : PySem.W.Frag} {μ : List Addr} {H : Hp} {a : W} {vs : List V} (r : RelWs K μ H [a] vs) : ∃ x, vs = [x] /\ RelW K μ H a x := by
  obtain ⟨x, xs, rfl, rx, rn⟩ := r.consE
  rw [rn.nilE]; exact ⟨x, rfl, rx⟩
def bLen (ws : List W) (st : List Cell) : R W := match ws with
  | [.tup xs] => .ok (.int xs.length) st
  | [.str l] => if l.length <= LIM then .ok (.int l.length) st else .bad
  | [.loc n] => ofO (lstOf st n) fun xs => .ok (.int xs.length) st
  | _ => .bad
theorem b_len : CallW X (.builtin "len") bLen := ⟨fun pins s σ H vs us Q I rv ⟨μ, st, ws, S, r, q⟩ => by
  unfold bLen at q
  split at q
  · obtain ⟨x, rfl, rx⟩ := r.one
    obtain ⟨p, ys, rfl, hS, r'⟩ := rx.tupE
    exact call_len_seq pins s σ H _ us Q I rv ⟨p, ys, rfl, .inr hS, by rw [<- r'.len]; exact okW_int S q⟩
  · obtain ⟨x, rfl, rx⟩ := r.one
    split at q
    · rename_i c
      exact call_len_str pins s σ H _ us Q I rv ⟨_, by rw [rx.strE], by rw [tx_len]; exact lim_le c, by rw [tx_len]; exact okW_int S q⟩
    · exact q.elim
  · obtain ⟨x, rfl, rx⟩ := r.one
    unfold ofO at q
    split at q
    · rename_i ys e0
      obtain ⟨a, vs, g, hS, r'⟩ := S.lstOf e0
      obtain ⟨b1, f1, rfl⟩ := rx.locE
      rw [g] at f1; cases f1
      exact call_len_seq pins s σ H _ us Q I rv ⟨_, vs, rfl, .inl hS, by rw [<- r'.len]; exact okW_int S q⟩
    · exact q.elim
  · exact q.elim, fun ws st => by
  unfold bLen ofO
  repeat' split
  all_goals trivial⟩
def bMin (ws : List W) (st : List Cell) : R W := match ws with
  | [.int i, .int j] => .ok (.int (if j < i then j else i)) st
  | _ => .bad
theorem b_min (hc : X.calm = true := by rfl) : CallW X (.builtin "min") bMin := ⟨fun pins s σ H vs us Q I rv ⟨μ, st, ws, S, r, q⟩ => by
  unfold bMin at q
  split at q
  · obtain ⟨x, y, rfl, rx, ry⟩ := r.two
    exact call_min2 hc pins s σ H _ us Q I rv ⟨_, _, by rw [rx.intE, ry.intE], okW_int S q⟩
  · exact q.elim, fun ws st => by unfold bMin; split <;> trivial⟩
def bTuple (ws : List W) (st : List Cell) : R W := match ws with
  | [.tup xs] => .ok (.tup xs) st
  | [.loc n] => ofO (lstOf st n) fun xs => .ok (.tup xs) st
  | _ => .bad
theorem b_tuple : CallW X (.type "tuple") bTuple := ⟨fun pins s σ H vs us Q I rv ⟨μ, st, ws, S, r, q⟩ => by
  unfold bTuple at q
  split at q
  · obtain ⟨x, rfl, rx⟩ := r.one
    obtain ⟨p, ys, rfl, hS, r'⟩ := id rx.tupE
    exact call_tupleT pins s σ H _ us Q I rv ⟨p, ys, rfl, hS, q μ _ H (List.prefix_refl _) Ext.refl S rx⟩
  · obtain ⟨x, rfl, rx⟩ := r.one
    unfold ofO at q
    split at q
    · rename_i ys e0
      obtain ⟨a, vs, g, hS, r'⟩ := S.lstOf e0
      obtain ⟨b1, f1, rfl⟩ := rx.locE
      rw [g] at f1; cases f1
      refine call_tupleL pins s σ H _ us Q I rv ⟨_, vs, rfl, hS, fun l H2 hl e => ?_⟩
      subst e
      have x := SqT.same (K := X.K) (same_new hl (.tup vs))
      exact q μ _ _ (List.prefix_refl _) x (S.same (same_new hl _)) (.tupI SqT.new (r'.mono (List.prefix_refl _) x))
    · exact q.elim
  · exact q.elim, fun ws st => by
  unfold bTuple ofO
  repeat' split
  all_goals trivial⟩
def bInt (ws : List W) (st : List Cell) : R W := match ws with
  | [.int i] => .ok (.int i) st
  | [.bl k] => .ok (.int (if k then 1 else 0)) st
  | _ => .bad
theorem b_int : CallW X (.type "int") bInt := ⟨fun pins s σ H vs us Q I rv ⟨μ, st, ws, S, r, q⟩ => by
  unfold bInt at q
  split at q
  · obtain ⟨x, rfl, rx⟩ := r.one
    exact call_int1 pins s σ H _ us Q I rv (.inl ⟨_, by rw [rx.intE], okW_int S q⟩)
  · obtain ⟨x, rfl, rx⟩ := r.one
    exact call_int1 pins s σ H _ us Q I rv (.inr ⟨_, by rw [rx.blE], okW_int S q⟩)
  · exact q.elim, fun ws st => by unfold bInt; split <;> trivial⟩
end
end L2
set_option Elab.async false
set_option linter.all false
set_option maxRecDepth 100000
set_option maxHeartbeats 4000000
namespace L2
open PySem PySem.Spec PyProof.Rows
section
variable {X : Cx} {a b c e o : Expr} {es : List Expr} {pos p p2 apos cpos : Pos} {x name : Str} {j : Nat} {fa fb fc fe : FE} {fs : FA} {ft : FT} {st1 : Stmt} {sr sa sb : List Stmt} {g g' : FS}
def xSeq (g g' : FS) : FS := fun ρ st => match g ρ st with
  | .nx ρ' st' => g' ρ' st'
  | r => r
def xNext : FS := fun ρ st => .nx ρ st
theorem sb_nil : SB X [] xNext := ⟨pss_nil.imp fun D σ H h => by
  obtain ⟨μ, ρ, st, l, h⟩ := h
  exact h μ σ H (List.prefix_refl _) Ext.refl l⟩
theorem sb_one (h1 : SS X st1 g) : SB X [st1] g := ⟨pss_one h1.h⟩
theorem sb_cons (h1 : SS X st1 g) (h2 : SB X sr g') : SB X (st1 :: sr) (xSeq g g') := ⟨(pss_cons h1.h h2.h).imp fun D σ H h => by
  obtain ⟨μ, ρ, st, l, h⟩ := h
  refine ⟨μ, ρ, st, l, ?_⟩
  unfold xSeq at h
  cases e : g ρ st with
  | nx ρ' st' => rw [e] at h; exact fun μ' σ' H' p x l' => ⟨μ', ρ', st', l', SK.mono h p x⟩
  | rt w st' => rw [e] at h; exact h
  | bk ρ' st' => rw [e] at h; exact h
  | ct ρ' st' => rw [e] at h; exact h
  | ex c ρ' st' => rw [e] at h; exact h
  | bad => rw [e] at h; exact h⟩
def R.stmt {α : Type} (r : R α) (ρ : EnvW) (k : α -> List Cell -> RS) : RS := match r with
  | .ok a st => k a st
  | .ex c st => .ex c ρ st
  | .bad => .bad
@[simp] theorem R.stmt_ok {α : Type} (a : α) (st : List Cell) (ρ : EnvW) (k : α -> List Cell -> RS) : (R.ok a st).stmt ρ k = k a st := rfl
@[simp] theorem R.stmt_ex {α : Type} (c : Str) (st : List Cell) (ρ : EnvW) (k : α -> List Cell -> RS) : (R.ex c st : R α).stmt ρ k = .ex c ρ st := rfl
@[simp] theorem R.stmt_bad {α : Type} (ρ : EnvW) (k : α -> List Cell -> RS) : (R.bad : R α).stmt ρ k = .bad := rfl
theorem RK.stmt {α β : Type} {rel : List Addr -> Hp -> α -> β -> Prop} {μ : List Addr} {ρ : EnvW} {st : List Cell} {σ : St} {H : Hp} {D : Ends} {r : R α} {k : α -> List Cell -> RS} {T : β -> Hp -> Prop}
    (h : SK X μ H D (r.stmt ρ k)) (l : Rl X μ ρ st σ H)
    (hk : ∀ μ' st' x v H', μ <+: μ' -> Ext X.K H H' -> Rl X μ' ρ st' σ H' -> rel μ' H' x v -> SK X μ' H' D (k x st') -> T v H') : RK X rel μ σ H T r := by
  cases r with
  | ok a st' => exact fun μ' b H' p x s q => hk μ' st' a b H' p x (l.to p x s) q (SK.mono h p x)
  | ex c st' => exact XS.toE h l
  | bad => exact h
def xExpr (fe : FE) : FS := fun ρ st => (fe ρ st).stmt ρ fun _ st => .nx ρ st
theorem ss_expr (he : SE X e fe) (hs : swapsWith e none pos.line X.env = pure false := by rfl) : SS X (.Expr e pos) (xExpr fe) := ⟨(ps_expr he.h hs).imp fun D σ H h => by
  obtain ⟨μ, ρ, st, l, h⟩ := h
  exact ⟨μ, ρ, st, l, RK.stmt h l fun μ1 st1 x v H1 p1 x1 l1 q1 h1 => h1 μ1 σ H1 (List.prefix_refl _) Ext.refl l1⟩⟩
def xRet (fe : FE) : FS := fun ρ st => (fe ρ st).stmt ρ fun w st => .rt w st
theorem ss_ret (he : SE X e fe) : SS X (.Return (some e) pos) (xRet fe) := ⟨(ps_ret he.h).imp fun D σ H h => by
  obtain ⟨μ, ρ, st, l, h⟩ := h
  exact ⟨μ, ρ, st, l, RK.stmt h l fun μ1 st1 x v H1 p1 x1 l1 q1 h1 => h1 μ1 v H1 (List.prefix_refl _) Ext.refl l1.sto q1⟩⟩
def xIf (t : FT) (g g' : FS) : FS := fun ρ st => (t ρ st).stmt ρ fun k st => if k then g ρ st else g' ρ st
theorem ss_if (hc : ST X c ft) (ha : SB X sa g) (hb : SB X sb g') : SS X (.If c sa sb pos) (xIf ft g g') := ⟨(ps_if hc.h ha.h hb.h).imp fun D σ H h => by
  obtain ⟨μ, ρ, st, l, h⟩ := h
  refine ⟨μ, ρ, st, l, RK.stmt h l fun μ1 st1 x v H1 p1 x1 l1 q1 h1 => ?_⟩
  cases q1
  cases x with
  | true => exact ⟨μ1, ρ, st1, l1, h1⟩
  | false => exact ⟨μ1, ρ, st1, l1, h1⟩⟩
abbrev FG := W -> EnvW -> Option EnvW
abbrev FGs := List W -> EnvW -> Option EnvW
def tTg (X : Cx) (f : FG) : TG := fun v σ H Q => ∃ μ ρ st w ρ', Rl X μ ρ st σ H /\ RelW X.K μ H w v /\ f w ρ = some ρ' /\ ∀ σ', Rl X μ ρ' st σ' H -> Q σ' H
def tTgs (X : Cx) (f : FGs) : TGs := fun vs σ H Q => ∃ μ ρ st ws ρ', Rl X μ ρ st σ H /\ RelWs X.K μ H ws vs /\ f ws ρ = some ρ' /\ ∀ σ', Rl X μ ρ' st σ' H -> Q σ' H
theorem PG.imp {X : Cx} {e : Expr} {t t' : TG} (h : PG X e t) (i : ∀ v σ H Q, t' v σ H Q -> t v σ H Q) : PG X e t' := fun pins s σ H x u Q I r q => h pins s σ H x u Q I r (i _ _ _ _ q)
theorem PGs.imp {X : Cx} {e : List Expr} {t t' : TGs} (h : PGs X e t) (i : ∀ v σ H Q, t' v σ H Q -> t v σ H Q) : PGs X e t' := fun pins s σ H x u Q I r q => h pins s σ H x u Q I r (i _ _ _ _ q)
structure SG (X : Cx) (e : Expr) (f : FG) : Prop where
  h : PG X e (tTg X f)
structure SGs (X : Cx) (e : List Expr) (f : FGs) : Prop where
  h : PGs X e (tTgs X f)
def gNm (i : Nat) : FG := fun w ρ => some (ρ.set i (some w))
theorem sg_name {i : Nat} (hN : X.N.Nodup) (hi : X.N[i]? = some x) (hx : Loc X.env.scope x) (hf : X.fn x = true \/ X.env.scope.names.lookup x = some .local := by first | exact .inl rfl | exact .inr rfl | assumption) : SG X (.Name x pos) (gNm i) := ⟨(pg_name hN hi hx hf).imp fun v σ H Q h => by
  obtain ⟨μ, ρ, st, w, ρ', l, r, e, q⟩ := h
  cases e
  exact q _ ⟨envR_set r i l.env, l.sto⟩⟩
def gsNil : FGs := fun ws ρ => match ws with
  | [] => some ρ
  | _ => none
def gsCons (f : FG) (fs : FGs) : FGs := fun ws ρ => match ws with
  | w :: ws => (f w ρ).bind fun ρ' => fs ws ρ'
  | [] => none
theorem sgs_nil : SGs X [] gsNil := ⟨pgs_nil.imp fun vs σ H Q h => by
  obtain ⟨μ, ρ, st, ws, ρ', l, r, e, q⟩ := h
  cases ws with
  | nil => cases e; exact ⟨r.nilE, q σ l⟩
  | cons _ _ => cases e⟩
theorem sgs_cons {f : FG} {fs : FGs} (h1 : SG X e f) (h2 : SGs X es fs) (hs : (assignEach (e :: es) X.env).map (·.2) = assign e X.env :: (assignEach es X.env).map (·.2) := by rfl) : SGs X (e :: es) (gsCons f fs) := ⟨(pgs_cons h1.h h2.h hs).imp fun vs σ H Q h => by
  obtain ⟨μ, ρ, st, ws, ρ', l, r, e, q⟩ := h
  cases ws with
  | nil => cases e
  | cons w ws =>
    obtain ⟨x, xs, rfl, rx, rs⟩ := r.consE
    simp only [gsCons] at e
    cases e1 : f w ρ with
    | none => rw [e1] at e; cases e
    | some ρ1 =>
      rw [e1] at e
      exact ⟨x, xs, rfl, μ, ρ, st, w, ρ1, l, rx, e1, fun σ1 l1 => ⟨μ, ρ1, st, ws, ρ', l1, rs, e, q⟩⟩⟩
def gTp (n : Nat) (fs : FGs) : FG := fun w ρ => match w with
  | .tup ws => if ws.length = n then fs ws ρ else none
  | _ => none
theorem sg_tup {k n : Nat} {fs : FGs} (hc : X.calm = true) (h : SGs X es fs) (hn : (assignEach es X.env).length = n := by rfl) (hst : (assignEach es X.env).findIdx? (·.1) = none := by rfl) : SG X (.Tuple es k pos) (gTp n fs) := ⟨(pg_tup hc h.h hn hst).imp fun v σ H Q h => by
  obtain ⟨μ, ρ, st, w, ρ', l, r, e, q⟩ := h
  cases w with
  | tup ws =>
    obtain ⟨p, vs, rfl, hS, rs⟩ := r.tupE
    simp only [gTp] at e
    by_cases c : ws.length = n
    · rw [if_pos c] at e
      exact ⟨p, vs, rfl, hS, by rw [<- rs.len]; exact c, μ, ρ, st, ws, ρ', l, rs, e, q⟩
    · rw [if_neg c] at e; cases e
  | _ => cases e⟩
def xAsg (fe : FE) (f : FG) : FS := fun ρ st => (fe ρ st).stmt ρ fun w st => match f w ρ with
  | some ρ' => .nx ρ' st
  | none => .bad
def xSet (i : Nat) (fe : FE) : FS := fun ρ st => (fe ρ st).stmt ρ fun w st => .nx (ρ.set i (some w)) st
theorem ss_set {i : Nat} {pos' : Pos} (hN : X.N.Nodup) (hi : X.N[i]? = some x) (hx : Loc X.env.scope x) (he : SE X e fe) (hs : swapsWith e (some (.Name x pos')) pos.line X.env = pure false := by rfl) (hf : X.fn x = true \/ X.env.scope.names.lookup x = some .local := by first | exact .inl rfl | exact .inr rfl | assumption) :
    SS X (.Assign [.Name x pos'] e pos) (xSet i fe) := ⟨(ps_set hN hi hx he.h hs hf).imp fun D σ H h => by
  obtain ⟨μ, ρ, st, l, h⟩ := h
  exact ⟨μ, ρ, st, l, RK.stmt h l fun μ1 st1 x v H1 p1 x1 l1 q1 h1 => h1 μ1 _ H1 (List.prefix_refl _) Ext.refl ⟨envR_set q1 i l1.env, l1.sto⟩⟩⟩
def wSetL (x i v : W) (st : List Cell) : Option (List Cell) := match x, i with
  | .loc n, .int k => (match st[n]? with
    | some (.lst ws) => (ixN ws.length k).map fun j => st.set n (.lst (ws.set j v))
    | _ => none)
  | _, _ => none
def xPut (fo fi fe : FE) (f : W -> W -> W -> List Cell -> Option (List Cell)) : FS := fun ρ st => (fe ρ st).stmt ρ fun v st => (fo ρ st).stmt ρ fun x st => (fi ρ st).stmt ρ fun i st => match f x i v st with
  | some st' => .nx ρ st'
  | none => .bad
def rWset (X : Cx) (f : W -> W -> W -> List Cell -> Option (List Cell)) : TSet := fun o i v H Q => ∃ μ st wo wi wv st', StR X.K X.mg μ st H /\ RelW X.K μ H wo o /\ RelW X.K μ H wi i /\ RelW X.K μ H wv v /\ f wo wi wv st = some st' /\ ∀ H', Ext X.K H H' -> StR X.K X.mg μ st' H' -> Q H'
theorem w_setL : PSet X (rWset X wSetL) := fun pins s σ H o i v ov iv u Q I r1 r2 r3 ⟨μ, st, wo, wi, wv, st', S, ro, ri, rv, e, q⟩ => by
  cases wo with
  | loc n =>
    cases wi with
    | int k =>
      simp only [wSetL] at e
      cases e1 : st[n]? with
      | none => rw [e1] at e; cases e
      | some cc =>
        rw [e1] at e
        cases cc with
        | lst ws =>
          simp only at e
          cases e2 : ixN ws.length k with
          | none => rw [e2] at e; cases e
          | some jj =>
            rw [e2] at e
            cases e
            obtain ⟨a1, g1, vs, k1, r⟩ := S.get e1
            obtain ⟨b1, f1, rfl⟩ := ro.locE
            rw [g1] at f1; cases f1
            refine set_listF pins s σ H _ i v ov iv u Q I r1 r2 r3 ⟨a1, vs, k, jj, rfl, ri.intE, k1, by rw [<- r.len]; exact e2, fun H2 eH => ?_⟩
            subst eH
            exact q _ (SqT.but but_upd k1) (S.set e1 g1 k1 (r.setI jj rv))
        | _ => cases e
    | _ => cases e
  | _ => cases wi <;> cases e
theorem ss_put {f : W -> W -> W -> List Cell -> Option (List Cell)} {i : Expr} {pos' : Pos} {fi : FE} {fo : FE} (hset : PSet X (rWset X f)) (he : SE X e fe) (ho : SE X o fo) (hi : SE X i fi)
    (ha : ∀ v, assign (.Subscript o i pos') X.env v = (do
      let ov <- holding [v] (eval o X.env)
      let iv <- holding [v, ov] (eval i X.env)
      standAt pos'
      holding [v, ov, iv] (setItem ov iv v)
      release [v, ov, iv] []) := by intro _; rfl)
    (hs : swapsWithSole [.Subscript o i pos'] e pos.line X.env = pure false := by rfl) (hw : swappedStores [.Subscript o i pos'] e X.env = pure none := by rfl) (h1 : (assignEach [.Subscript o i pos'] X.env).map (·.2) = [assign (.Subscript o i pos') X.env] := by rfl) :
    SS X (.Assign [.Subscript o i pos'] e pos) (xPut fo fi fe f) := ⟨(ps_asg he.h (pg_sub ho.h hi.h hset ha) hs hw h1).imp fun D σ H h => by
  obtain ⟨μ, ρ, st, l, h⟩ := h
  refine ⟨μ, ρ, st, l, RK.stmt h l fun μ1 st1 v vv H1 p1 x1 l1 q1 h1 => ⟨μ1, ρ, st1, l1, RK.stmt h1 l1 fun μ2 st2 x xv H2 p2 x2 l2 q2 h2 => ⟨μ2, ρ, st2, l2, RK.stmt h2 l2 fun μ3 st3 i iv H3 p3 x3 l3 q3 h3 => ?_⟩⟩⟩
  cases e1 : f x i v st3 with
  | none => rw [e1] at h3; exact h3.elim
  | some st' =>
    rw [e1] at h3
    exact ⟨μ3, st3, x, i, v, st', l3.sto, q2.mono p3 x3, q3, (q1.mono p2 x2).mono p3 x3, e1, fun H' xx S' => h3 μ3 σ H' (List.prefix_refl _) xx (l3.to (List.prefix_refl _) xx S')⟩⟩
end
end L2
set_option Elab.async false
set_option linter.all false
set_option maxRecDepth 100000
set_option maxHeartbeats 4000000
namespace L2
open PySem PySem.Spec PyProof.Rows
def chkOk (st : List Cell) : Option (Nat × List W) -> Prop
  | none => True
  | some (n, ws) => lstOf st n = some ws
abbrev Walk := List W × Option (Nat × List W)
abbrev FI := EnvW -> List Cell -> R Walk
def WalkOk (X : Cx) (J : It) (k : Walk) (μ : List Addr) (H : Hp) : Prop :=
  ∀ (i : Nat) μ' st' H', μ <+: μ' -> Ext X.K H H' -> StR X.K X.mg μ' st' H' -> chkOk st' k.2 ->
    (∀ w, k.1[i]? = some w -> J.go i H' /\ ∀ x H'', J.yld i H' x H'' -> Ext X.K H' H'' /\ StR X.K X.mg μ' st' H'' /\ RelW X.K μ' H'' w x) /\ (k.1.length <= i -> J.stop i H')
abbrev relI (X : Cx) : List Addr -> Hp -> Walk -> It -> Prop := fun μ H k J => WalkOk X J k μ H
structure SI (X : Cx) (tg it : Expr) (f : FI) : Prop where
  h : PI X tg it (fun σ H R => tG X (relI X) f σ H R)
theorem PI.imp {X : Cx} {tg it : Expr} {t t' : TI} (h : PI X tg it t) (i : ∀ σ H Q, t' σ H Q -> t σ H Q) : PI X tg it t' := fun pins s σ H Q I q => h pins s σ H Q I (i _ _ _ q)
open Classical in
noncomputable def forW (f : FG) (body : FS) (ck : Option (Nat × List W)) : List W -> FS
  | [], ρ, st => if chkOk st ck then .nx ρ st else .bad
  | w :: ws, ρ, st => if chkOk st ck then (match f w ρ with
    | none => .bad
    | some ρ' => (match body ρ' st with
      | .nx ρ2 st2 => forW f body ck ws ρ2 st2
      | .ct ρ2 st2 => forW f body ck ws ρ2 st2
      | .bk ρ2 st2 => .nx ρ2 st2
      | .rt w st2 => .rt w st2
      | .ex c ρ2 st2 => .ex c ρ2 st2
      | .bad => .bad)) else .bad
noncomputable def xFor (fi : FI) (f : FG) (body : FS) : FS := fun ρ st => (fi ρ st).stmt ρ fun k st => forW f body k.2 k.1 ρ st
section
variable {X : Cx} {a b c e o tg iter : Expr} {es : List Expr} {pos p p2 : Pos} {fa fb fe : FE} {fs : FA} {ft : FT} {body : List Stmt} {g : FS} {f : FG} {fi : FI}
theorem ss_for (hi : SI X tg iter fi) (hg : SG X tg f) (hb : SB X body g) (hc : X.calm = true := by rfl) (hp : PassesOwn (model X.prog X.w) X.A X.env X.xe := by passes_own) (hs : ∀ x, foldedSetIterable iter X.env x = pure x := by intro _; rfl) : SS X (.For tg iter body [] pos) (xFor fi f g) := ⟨(ps_for hp hc hi.h hg.h hb.h hs).imp fun D σ H h => by
  obtain ⟨μ, ρ, st, l, h⟩ := h
  refine ⟨μ, ρ, st, l, RK.stmt h l fun μ1 st1 k J H1 p1 x1 l1 wk h1 => ?_⟩
  refine ⟨fun i m σ' H' => i <= k.1.length /\ m = k.1.length - i /\ ∃ μ' ρ' st', μ1 <+: μ' /\ Ext X.K H1 H' /\ Rl X μ' ρ' st' σ' H' /\ SK X μ' H' D (forW f g k.2 (k.1.drop i) ρ' st'),
    ⟨_, Nat.zero_le _, rfl, μ1, ρ, st1, List.prefix_refl _, Ext.refl, l1, h1⟩, ?_⟩
  rintro i m σ' H' ⟨hi, rfl, μ', ρ', st', pm, xm, lm, hm⟩
  by_cases hlt : i < k.1.length
  · rw [List.drop_eq_getElem_cons hlt] at hm
    unfold forW at hm
    by_cases ck : chkOk st' k.2
    · rw [if_pos ck] at hm
      obtain ⟨go, yld⟩ := (wk i μ' st' H' pm xm lm.sto ck).1 _ (List.getElem?_eq_getElem hlt)
      cases hf : f k.1[i] ρ' with
      | none => rw [hf] at hm; exact hm.elim
      | some ρ2 =>
        rw [hf] at hm
        simp only at hm
        refine .inr ⟨go, fun σ2 H2 => ∃ μ2 ρ3 st2, μ' <+: μ2 /\ Ext X.K H' H2 /\ Rl X μ2 ρ3 st2 σ2 H2 /\ SK X μ2 H2 D (forW f g k.2 (k.1.drop (i + 1)) ρ3 st2), fun σ2 H2 ⟨μ2, ρ3, st2, q1, q2, q3, q4⟩ =>
          ⟨_, by omega, hlt, rfl, μ2, ρ3, st2, pm.trans q1, xm.trans q2, q3, q4⟩, fun x H2 hy => ?_⟩
        obtain ⟨y1, y2, y3⟩ := yld x H2 hy
        refine ⟨μ', ρ', st', k.1[i], ρ2, lm.to (List.prefix_refl _) y1 y2, y3, hf, fun σ2 l2 => ⟨μ', ρ2, st', l2, ?_⟩⟩
        cases e : g ρ2 st' with
        | nx ρ3 st3 => rw [e] at hm; exact fun μ4 σ4 H4 p4 x4 l4 => ⟨μ4, ρ3, st3, p4, y1.trans x4, l4, SK.mono hm p4 (y1.trans x4)⟩
        | ct ρ3 st3 => rw [e] at hm; exact fun μ4 σ4 H4 p4 x4 l4 => ⟨μ4, ρ3, st3, p4, y1.trans x4, l4, SK.mono hm p4 (y1.trans x4)⟩
        | bk ρ3 st3 => rw [e] at hm; exact fun μ4 σ4 H4 p4 x4 l4 => hm μ4 σ4 H4 p4 (y1.trans x4) l4
        | rt w st3 => rw [e] at hm; exact fun μ4 v4 H4 p4 x4 => hm μ4 v4 H4 p4 (y1.trans x4)
        | ex c ρ3 st3 => rw [e] at hm; exact XS.mono hm (List.prefix_refl _) y1
        | bad => rw [e] at hm; exact hm
    · rw [if_neg ck] at hm; exact hm.elim
  · have hi' : i = k.1.length := by omega
    subst hi'
    rw [List.drop_of_length_le (Nat.le_refl _)] at hm
    unfold forW at hm
    by_cases ck : chkOk st' k.2
    · rw [if_pos ck] at hm
      exact .inl ⟨(wk _ μ' st' H' pm xm lm.sto ck).2 (Nat.le_refl _), hm μ' σ' H' (List.prefix_refl _) Ext.refl lm⟩
    · rw [if_neg ck] at hm; exact hm.elim⟩
def whileW (t : FT) (body : FS) : Nat -> FS
  | 0, _, _ => .bad
  | n + 1, ρ, st => (t ρ st).stmt ρ fun k st => if k then (match body ρ st with
      | .nx ρ2 st2 => whileW t body n ρ2 st2
      | .ct ρ2 st2 => whileW t body n ρ2 st2
      | .bk ρ2 st2 => .nx ρ2 st2
      | .rt w st2 => .rt w st2
      | .ex c ρ2 st2 => .ex c ρ2 st2
      | .bad => .bad) else .nx ρ st
open Classical in
noncomputable def xWhile (t : FT) (body : FS) : FS := fun ρ st => if h : ∃ n, whileW t body n ρ st ≠ .bad then whileW t body h.choose ρ st else .bad
theorem whileW_mono (t : FT) (g : FS) : ∀ (n : Nat) (ρ : EnvW) (st : List Cell), whileW t g n ρ st ≠ .bad -> whileW t g (n + 1) ρ st = whileW t g n ρ st
  | 0, _, _, h => absurd rfl h
  | n + 1, ρ, st, h => by
    unfold whileW at h ⊢
    cases e : t ρ st with
    | ex c st1 => rfl
    | bad => rfl
    | ok k st1 =>
      rw [e] at h
      simp only [R.stmt_ok] at h ⊢
      cases k with
      | false => rfl
      | true =>
        simp only [if_true] at h ⊢
        cases e2 : g ρ st1 with
        | nx ρ2 st2 => rw [e2] at h; exact whileW_mono t g n ρ2 st2 h
        | ct ρ2 st2 => rw [e2] at h; exact whileW_mono t g n ρ2 st2 h
        | _ => rfl
theorem whileW_le {t : FT} {g : FS} {n m : Nat} {ρ : EnvW} {st : List Cell} (h : whileW t g n ρ st ≠ .bad) (hm : n <= m) : whileW t g m ρ st = whileW t g n ρ st := by
  induction hm with
  | refl => rfl
  | @step m _ ih => rw [whileW_mono t g m ρ st (by rw [ih]; exact h), ih]
theorem xWhile_eq {t : FT} {g : FS} {n : Nat} {ρ : EnvW} {st : List Cell} {r : RS} (h : whileW t g n ρ st = r) (hr : r ≠ .bad) : xWhile t g ρ st = r := by
  have hx : ∃ n, whileW t g n ρ st ≠ .bad := ⟨n, by rw [h]; exact hr⟩
  unfold xWhile
  rw [dif_pos hx]
  have c := hx.choose_spec
  have a := whileW_le c (Nat.le_max_left hx.choose n)
  have b := whileW_le (n := n) (m := max hx.choose n) (by rw [h]; exact hr) (Nat.le_max_right _ _)
  rw [<- a, b, h]
theorem while_sound {X : Cx} {t : FT} {g : FS} {D : Ends} : ∀ (n : Nat) (σ : St) (H : Hp) (μ : List Addr) (ρ : EnvW) (st : List Cell), Rl X μ ρ st σ H -> SK X μ H D (whileW t g n ρ st) -> tWhile (tT X t) (tSt X g) D σ H := by
  intro n σ H μ ρ st l h
  refine ⟨fun m σ' H' => ∃ μ' ρ' st', Rl X μ' ρ' st' σ' H' /\ SK X μ' H' D (whileW t g m ρ' st'), ⟨n, μ, ρ, st, l, h⟩, ?_⟩
  rintro m σ' H' ⟨μ', ρ', st', l', h'⟩
  cases m with
  | zero => exact h'.elim
  | succ m =>
    refine ⟨μ', ρ', st', l', RK.stmt h' l' fun μ1 st1 k v H1 p1 x1 l1 q1 h1 => ?_⟩
    cases q1
    cases k with
    | false => exact h1 μ1 σ' H1 (List.prefix_refl _) Ext.refl l1
    | true =>
      refine ⟨fun σ2 H2 => ∃ μ2 ρ2 st2, Rl X μ2 ρ2 st2 σ2 H2 /\ SK X μ2 H2 D (whileW t g m ρ2 st2), fun σ2 H2 z => ⟨m, Nat.lt_succ_self m, z⟩, μ1, ρ', st1, l1, ?_⟩
      simp only [if_true] at h1
      cases e : g ρ' st1 with
      | nx ρ3 st3 => rw [e] at h1; exact fun μ4 σ4 H4 p4 x4 l4 => ⟨μ4, ρ3, st3, l4, SK.mono h1 p4 x4⟩
      | ct ρ3 st3 => rw [e] at h1; exact fun μ4 σ4 H4 p4 x4 l4 => ⟨μ4, ρ3, st3, l4, SK.mono h1 p4 x4⟩
      | bk ρ3 st3 => rw [e] at h1; exact h1
      | rt w st3 => rw [e] at h1; exact h1
      | ex c ρ3 st3 => rw [e] at h1; exact h1
      | bad => rw [e] at h1; exact h1
theorem ss_while {t : FT} (hc : ST X c t) (hb : SB X body g) (hp : PassesOwn (model X.prog X.w) X.A X.env X.xe := by passes_own) : SS X (.While c body [] pos) (xWhile t g) := ⟨(ps_while hp hc.h hb.h).imp fun D σ H h => by
  obtain ⟨μ, ρ, st, l, h⟩ := h
  unfold xWhile at h
  by_cases hx : ∃ n, whileW t g n ρ st ≠ .bad
  · rw [dif_pos hx] at h; exact while_sound _ σ H μ ρ st l h
  · rw [dif_neg hx] at h; exact h.elim⟩
def itTup (fe : FE) : FI := fun ρ st => (fe ρ st).bind fun x st => match x with
  | .tup ws => .ok (ws, none) st
  | _ => .bad
theorem si_tup (he : SE X e fe) : SI X tg e (itTup fe) := ⟨(pi_tup he.h).imp fun σ H R h => by
  obtain ⟨μ, ρ, st, l, h⟩ := h
  refine ⟨μ, ρ, st, l, RK.bind h l fun μ1 st1 x v H1 p1 x1 l1 q1 h1 => ?_⟩
  cases x with
  | tup ws =>
    obtain ⟨p, vs, rfl, hS, r⟩ := q1.tupE
    refine ⟨p, rfl, ⟨vs, hS⟩, h1 μ1 _ H1 (List.prefix_refl _) Ext.refl l1.sto fun i μ' st' H' pp xx S _ => ⟨fun w hw => ?_, fun hl => ⟨vs, xx _ _ hS, by rw [<- r.len]; exact hl⟩⟩⟩
    have r' := r.mono pp xx
    obtain ⟨v, g1, g2⟩ := r'.get hw
    refine ⟨⟨vs, v, xx _ _ hS, g1⟩, fun y H'' hy => ?_⟩
    obtain ⟨rfl, hy⟩ := hy
    have := hy vs (xx _ _ hS)
    rw [g1] at this; cases this
    exact ⟨Ext.refl, S, g2⟩
  | _ => exact h1.elim⟩
def itLst (fe : FE) : FI := fun ρ st => (fe ρ st).bind fun x st => match x with
  | .loc n => (match lstOf st n with
    | some ws => .ok (ws, some (n, ws)) st
    | none => .bad)
  | _ => .bad
theorem si_lst (he : SE X e fe) : SI X tg e (itLst fe) := ⟨(pi_list he.h).imp fun σ H R h => by
  obtain ⟨μ, ρ, st, l, h⟩ := h
  refine ⟨μ, ρ, st, l, RK.bind h l fun μ1 st1 x v H1 p1 x1 l1 q1 h1 => ?_⟩
  cases x with
  | loc n =>
    obtain ⟨a, ha, rfl⟩ := q1.locE
    simp only at h1
    cases e1 : lstOf st1 n with
    | none => rw [e1] at h1; exact h1.elim
    | some ws =>
      rw [e1] at h1
      obtain ⟨a', vs0, g0, hS0, r0⟩ := l1.sto.lstOf e1
      rw [ha] at g0; cases g0
      refine ⟨a, rfl, ⟨vs0, hS0⟩, h1 μ1 _ H1 (List.prefix_refl _) Ext.refl l1.sto fun i μ' st' H' pp xx S ck => ?_⟩
      obtain ⟨a2, vs, g2, hS, r⟩ := S.lstOf (show lstOf st' n = some ws from ck)
      have : μ'[n]? = some a := pre_get pp ha
      rw [g2] at this; cases this
      refine ⟨fun w hw => ?_, fun hl => ⟨vs, hS, by rw [<- r.len]; exact hl⟩⟩
      obtain ⟨v, g1, g3⟩ := r.get hw
      refine ⟨⟨vs, v, hS, g1⟩, fun y H'' hy => ?_⟩
      obtain ⟨rfl, hy⟩ := hy
      have := hy vs hS
      rw [g1] at this; cases this
      exact ⟨Ext.refl, S, g3⟩
  | _ => exact h1.elim⟩
def rangeW (lo : Int) (n : Nat) : List W := (List.range n).map fun (i : Nat) => W.int (lo + i)
theorem rangeW_len (lo : Int) (n : Nat) : (rangeW lo n).length = n := by simp [rangeW]
theorem walk_range {μ : List Addr} {H : Hp} {lo : Int} {n : Nat} : WalkOk X (Itr lo n) (rangeW lo n, none) μ H := fun i μ' st' H' pp xx S _ => by
  refine ⟨fun w hw => ?_, fun hl => by rw [rangeW_len] at hl; exact hl⟩
  have hi : i < n := by
    have := (List.getElem?_eq_some_iff.mp hw).1
    rw [rangeW_len] at this; exact this
  refine ⟨hi, fun y H'' hy => ?_⟩
  obtain ⟨rfl, rfl⟩ := hy
  have e : w = .int (lo + i) := by
    unfold rangeW at hw
    rw [List.getElem?_map, List.getElem?_range hi] at hw
    exact (Option.some.inj hw).symm
  subst e
  exact ⟨Ext.refl, S, .int⟩
def itRange1 (fs : FA) : FI := fun ρ st => (fs ρ st).bind fun ws st => match ws with
  | [.int j] => if -(2 ^ 62) <= j /\ j < 2 ^ 62 then .ok (rangeW 0 j.toNat, none) st else .bad
  | _ => .bad
theorem si_range1 (hm : X.mg "range" = none) (ha : SA X [a] fs) (hg : Gl X "range" := by rfl) (hs : starEach [a] X.env = [(false, eval a X.env)] := by rfl) : SI X tg (.Call (.Name "range" p) [a] [] pos) (itRange1 fs) := ⟨(pi_range1 hg hm ha.h hs).imp fun σ H R h => by
  obtain ⟨μ, ρ, st, l, h⟩ := h
  refine ⟨μ, ρ, st, l, RK.bind h l fun μ1 st1 x v H1 p1 x1 l1 q1 h1 => ?_⟩
  split at h1
  · obtain ⟨y, rfl, ry⟩ := q1.one
    split at h1
    · rename_i c
      exact ⟨_, by rw [ry.intE], c.1, c.2, h1 μ1 _ H1 (List.prefix_refl _) Ext.refl l1.sto walk_range⟩
    · exact h1.elim
  · exact h1.elim⟩
end
end L2
set_option Elab.async false
set_option linter.all false
set_option maxRecDepth 100000
set_option maxHeartbeats 4000000
namespace L2
open PySem PySem.Spec PyProof.Rows
mutual
def W.und (n : Nat) : W -> Bool
  | .loc m => decide (m < n)
  | .tup ws => undWs n ws
  | _ => true
def undWs (n : Nat) : List W -> Bool
  | [] => true
  | w :: ws => w.und n && undWs n ws
end
def Cell.und (n : Nat) : Cell -> Bool
  | .lst ws => undWs n ws
  | .ro ws => undWs n ws
  | .exc _ => true
section
variable {K : PySem.W.Frag} {mg : Str -> Option Value} {μ μ' : List Addr} {H H' : Hp}
mutual
theorem RelW.und : ∀ {w : W} {v : V}, RelW K μ H w v -> w.und μ.length = true
  | .non, _, _ => by simp [W.und]
  | .bl _, _, _ => by simp [W.und]
  | .int _, _, _ => by simp [W.und]
  | .str _, _, _ => by simp [W.und]
  | .tup _, _, r => by obtain ⟨p, vs, _, _, c⟩ := r.tupE; unfold W.und; exact RelWs.und c
  | .loc _, _, r => by obtain ⟨a, e, _⟩ := r.locE; unfold W.und; exact decide_eq_true (List.getElem?_eq_some_iff.mp e).1
theorem RelWs.und : ∀ {ws : List W} {vs : List V}, RelWs K μ H ws vs -> undWs μ.length ws = true
  | [], _, _ => by unfold undWs; rfl
  | _ :: _, _, r => by obtain ⟨x, xs, _, b, c⟩ := r.consE; unfold undWs; rw [RelW.und b, RelWs.und c]; rfl
end
mutual
theorem RelW.take {n : Nat} : ∀ {w : W} {v : V}, RelW K μ H w v -> w.und n = true -> RelW K (μ.take n) H w v
  | .non, _, r, _ => by rw [r.nonE]; exact .non
  | .bl _, _, r, _ => by rw [r.blE]; exact .bl
  | .int _, _, r, _ => by rw [r.intE]; exact .int
  | .str _, _, r, _ => by rw [r.strE]; exact .str
  | .tup _, _, r, b => by obtain ⟨p, vs, rfl, h, c⟩ := r.tupE; unfold W.und at b; exact .tupI h (RelWs.takeN c b)
  | .loc _, _, r, b => by obtain ⟨a, e, rfl⟩ := r.locE; unfold W.und at b; exact .locI (by rw [List.getElem?_take_of_lt (of_decide_eq_true b)]; exact e)
theorem RelWs.takeN {n : Nat} : ∀ {ws : List W} {vs : List V}, RelWs K μ H ws vs -> undWs n ws = true -> RelWs K (μ.take n) H ws vs
  | [], _, r, _ => by rw [r.nilE]; exact .nilI
  | _ :: _, _, r, b => by
    obtain ⟨x, xs, rfl, b1, c1⟩ := r.consE
    unfold undWs at b
    rw [Bool.and_eq_true] at b
    exact .consI (RelW.take b1 b.1) (RelWs.takeN c1 b.2)
end
theorem CellR.und {c : Cell} {a : Addr} (r : CellR K mg μ H c a) : c.und μ.length = true := by
  cases c with
  | lst ws => obtain ⟨vs, _, y⟩ := r; exact y.und
  | ro ws => obtain ⟨vs, _, y⟩ := r; exact y.und
  | exc c => rfl
theorem CellR.take {n : Nat} {c : Cell} {a : Addr} (r : CellR K mg μ H c a) (b : c.und n = true) : CellR K mg (μ.take n) H c a := by
  cases c with
  | lst ws => obtain ⟨vs, x, y⟩ := r; exact ⟨vs, x, y.takeN b⟩
  | ro ws => obtain ⟨vs, x, y⟩ := r; exact ⟨vs, x, y.takeN b⟩
  | exc c => exact r
end
theorem ObjOk.ex {P : Program} {w : World} {H : Hp} {h : Heap} {a : Addr} {o : HO} (x : ObjOk P w H h a o) : ∃ ob, h.get? a = some ob := by
  cases o with
  | lst xs => obtain ⟨_, _, _, _, e⟩ := x; exact ⟨_, e⟩
  | tup xs => obtain ⟨_, _, _, o, e, _⟩ := x; exact ⟨_, e⟩
  | dK kvs => obtain ⟨_, _, _, _, o, _, _, e, _⟩ := x; exact ⟨_, e⟩
  | dT kvs => obtain ⟨_, _, _, _, o, _, _, e, _⟩ := x; exact ⟨_, e⟩
  | set S n => obtain ⟨o, _, _, _, e, _⟩ := x; exact ⟨_, e⟩
  | ins C dx fs => obtain ⟨_, _, _, e, _⟩ := x; exact ⟨_, e⟩
  | own y => obtain ⟨_, e⟩ := x; exact ⟨_, e⟩
  | xd fs => obtain ⟨_, ⟨_, _, _, e, _⟩, _⟩ := x; exact ⟨_, e⟩
  | rng lo hi => obtain ⟨_, _, _, e⟩ := x; exact ⟨_, e⟩
  | frz ob u => obtain ⟨e, _⟩ := x; exact ⟨_, e⟩
  | tbl ps => exact ⟨_, (show h.get? a = some _ from x)⟩
  | met f y => exact ⟨_, (show h.get? a = some _ from x)⟩
  | ext φ => obtain ⟨_, ⟨_, e⟩, _⟩ := x; exact ⟨_, e⟩
def Keeps (st st' : List Cell) (ws : List W) : Prop := undWs st.length ws = true /\ st.length <= st'.length /\ ∀ (i : Nat), i < st.length -> st'[i]? = st[i]? \/ ∃ c, st'[i]? = some c /\ c.und st.length = true
open Classical in
noncomputable def trunc (st st' : List Cell) (ws : List W) : List Cell := if Keeps st st' ws then st'.take st.length else st'
theorem trunc_ok {K : PySem.W.Frag} {mg : Str -> Option Value} {μ μ' : List Addr} {H H' : Hp} {st st' : List Cell} {ws : List W} {vs : List V} (S : StR K mg μ st H) (S' : StR K mg μ' st' H') (p : μ <+: μ') (r : RelWs K μ' H' ws vs) :
    ∃ μ2, μ <+: μ2 /\ StR K mg μ2 (trunc st st' ws) H' /\ RelWs K μ2 H' ws vs := by
  unfold trunc
  by_cases k : Keeps st st' ws
  · rw [if_pos k]
    obtain ⟨k1, k2, k3⟩ := k
    have e : μ'.take st.length = μ := by
      obtain ⟨t, rfl⟩ := p
      rw [S.len, List.take_left]
    refine ⟨μ'.take st.length, by rw [e]; exact List.prefix_refl _, ⟨fun i j a ci cj h1 h2 r1 r2 m1 m2 => ?_, by rw [List.length_take, List.length_take, S'.len], fun i c a h1 h2 => ?_⟩, r.takeN k1⟩
    · have hi : i < st.length := by have := (List.getElem?_eq_some_iff.mp h1).1; rw [List.length_take] at this; omega
      have hj : j < st.length := by have := (List.getElem?_eq_some_iff.mp h2).1; rw [List.length_take] at this; omega
      rw [List.getElem?_take_of_lt hi] at h1 m1
      rw [List.getElem?_take_of_lt hj] at h2 m2
      exact S'.nd i j a ci cj h1 h2 r1 r2 m1 m2
    · have hi : i < st.length := by have := (List.getElem?_eq_some_iff.mp h1).1; rw [List.length_take] at this; omega
      rw [List.getElem?_take_of_lt hi] at h1 h2
      refine (S'.at' i c a h1 h2).take ?_
      rcases k3 i hi with q | ⟨c', q, b⟩
      · rw [h1] at q
        obtain ⟨a0, g0, r0⟩ := S.get q.symm
        have := r0.und
        rw [S.len]; exact this
      · rw [h1] at q; cases q; exact b
  · rw [if_neg k]
    exact ⟨μ', p, S', r⟩
noncomputable def runF (N : Nat) (body : FS) (ws : List W) (st : List Cell) : R W := match body (ws.map some ++ List.replicate (N - ws.length) none) st with
  | .rt w st' => .ok w (trunc st st' [w])
  | .nx _ st' => .ok .non (trunc st st' [])
  | .ex c _ st' => .ex c (trunc st st' [])
  | _ => .bad
def CX1 (P : Program) (w : World) : CXT := fun outer H s E e s' => ∃ x C t B H', e = .ref x /\ E C none H' /\ s'.os = s.os /\ AllBare s'.gens /\ Un (frs outer) [] H H' s.heap s'.heap /\ HOk P w H' s'.heap /\ H' x = none /\ Heap.FlyingW B outer x C (.ref t) s'.heap /\
  ∀ b o, s'.heap.get? b = some o -> (H' b ≠ none \/ ((∃ o0, s.heap.get? b = some o0) /\ b ∉ frs outer)) -> B.get? b = some o
def spW (K : PySem.W.Frag) (mg : Str -> Option Value) (n : Nat) (F : List W -> List Cell -> R W) : Sp := fun vs H Q E => vs.length = n /\ ∃ μ ws st, StR K mg μ st H /\ RelWs K μ H ws vs /\ (match F ws st with
  | .ok w st' => ∀ μ' v H', μ <+: μ' -> Ext K H H' -> StR K mg μ' st' H' -> RelW K μ' H' w v -> Q v H'
  | .ex c st' => ∀ C μ' H', mg c = some C -> μ <+: μ' -> Ext K H H' -> StR K mg μ' st' H' -> E C none H'
  | .bad => False)
theorem Flies.noted {X : Cx} {pins : List (Addr × Obj)} {σ : St} {c : Str} {H : Hp} {e : Value} {s : Shared} {Q : Unit -> Shared -> Prop} {E : Value -> Shared -> Prop} {M : Model} {outer : List Env} (f : Flies X pins σ c H e s) (hst : X.stack = X.env :: outer) (hfr : X.env.frame = some X.env.locals) (hA : X.A.frames = some X.stack)
    (h : ∀ x C t B h', e = .ref x -> X.mg c = some C -> H x = none -> Heap.FlyingW B X.stack x C (.ref t) h' -> s.heap.UpToSlots h' ->
      (∀ b o, s.heap.get? b = some o -> (H b ≠ none \/ ((∃ o0, X.s₀.heap.get? b = some o0) /\ b ∉ X.fs /\ b ∉ X.ex) \/ ((∃ y, X.env.cells.lookup y = some b) /\ b ∉ frs X.stack) \/ ∃ p ∈ X.pn ++ pins, p.1 = b) -> B.get? b = some o) -> Q () { s with heap := h' }) :
    wpAny M X.A (leaving X.env e) Q E s := by
  obtain ⟨x, C, t, B, rfl, hC, hx, st, nx, ff, tr, cov⟩ := f.ex
  rw [hst] at ff hA
  rcases tr with tr | ⟨oe, vs, he, rfl, _, hd, h1, h0⟩ | ⟨L, hL, tr⟩
  · refine wpAny_leaving_nextW hA ff hfr tr st nx fun h' hL => ?_
    obtain ⟨k1, k2, k3, k4⟩ := hL
    exact h x C t B h' rfl hC hx ⟨k1, nx, by rw [hst]; exact k2, k3⟩ k4 cov
  · refine wpAny_leaving_firstW hA ff hfr he st nx hd h1 h0 fun h' hL => ?_
    obtain ⟨k1, k2, k3, k4⟩ := hL
    exact h x _ t B h' rfl hC hx ⟨k1, nx, by rw [hst]; exact k2, k3⟩ k4 cov
  · unfold leaving
    refine wpAny_bind (wpAny_noteFrame_againW hL tr (wpAny_landsW ⟨st, nx, ff, tr⟩ fun h' fl up => ?_))
    exact h x C t B h' rfl hC hx (by rw [hst]; exact fl) up cov
theorem Flies.leaves {X : Cx} {pins : List (Addr × Obj)} {σ : St} {c : Str} {H : Hp} {e : Value} {s : Shared} {E : XK} {E' : Value -> Shared -> Prop} {M : Model} (f : Flies X pins σ c H e s) (hst : X.stack = X.env :: X.outer) (hfr : X.env.frame = some X.env.locals) (hA : X.A.frames = some X.stack) (hex : X.ex = [])
    (hE : ∀ C, X.mg c = some C -> E C none H) : wpAny M X.A (leaving X.env e) (fun _ s'' => CX1 X.prog X.w X.outer X.H₀ X.s₀ E e s'') E' s := by
  refine f.noted hst hfr hA fun x C t B h' he hC hx fl up cov => ?_
  have I := f.inv
  have un := I.base
  rw [hex] at un
  have fsE : X.fs = frs X.outer := rfl
  obtain ⟨f1, f2, f3, f4⟩ := fl
  rw [hst] at f3
  obtain ⟨_, _, f3'⟩ := f3
  have frames : ∀ b ∈ frs X.outer, ∀ o, s.heap.get? b = some o -> ∃ sl, h'.get? b = some { o with slots := sl } := fun b hb o ho => by
    obtain ⟨_, o', ho', hd⟩ := I.funs.mem hb
    rw [ho] at ho'; cases ho'
    exact up b o ho hd
  have kept : ∀ b o, s.heap.get? b = some o -> (∃ o0, X.s₀.heap.get? b = some o0) -> b ∉ frs X.outer -> h'.get? b = some o := fun b o ho h0 hb => f1 b o (cov b o ho (.inr (.inl ⟨h0, hb, by rw [hex]; simp⟩)))
  have keptH : ∀ b o, s.heap.get? b = some o -> H b ≠ none -> h'.get? b = some o := fun b o ho h0 => f1 b o (cov b o ho (.inl h0))
  refine ⟨x, C, t, B, H, he, hE C hC, I.os, I.bare, ⟨fun b o q n hb hx => ?_, fun b o q n hb hx => ?_, fun b o q n hx => un.free b o q n hx, fun b o q hx => ?_, un.tups, un.frzs, un.tbls⟩, fun b u hb => ?_, hx, ⟨f1, f2, f3', f4⟩, fun b o ho hr => ?_⟩
  · exact kept b o (un.keep b o q n hb hx) ⟨o, q⟩ hb
  · obtain ⟨sl, q1⟩ := un.slot b o q n hb hx
    obtain ⟨sl2, q2⟩ := frames b hb _ q1
    exact ⟨sl2, q2⟩
  · obtain ⟨o', q1⟩ := un.there b o q hx
    by_cases hb : b ∈ frs X.outer
    · obtain ⟨sl2, q2⟩ := frames b hb _ q1; exact ⟨_, q2⟩
    · exact ⟨o', kept b o' q1 ⟨o, q⟩ hb⟩
  · refine (I.hok b u hb).stay (fun c v hc q => ?_) (fun _ q => q) fun _ _ q => q
    refine keptH c v q ?_
    rcases hc with rfl | hc
    · rw [hb]; simp
    · rw [hc]; simp
  · rcases hr with hr | ⟨⟨o0, h0⟩, hb⟩
    · cases hu : H b with
      | none => exact absurd hu hr
      | some u =>
        have lt := I.hok.lt hu
        obtain ⟨ob, hob⟩ : ∃ ob, s.heap.get? b = some ob := by
          exact (I.hok b u hu).ex
        have := keptH b ob hob hr
        rw [ho] at this; cases this
        exact cov b o hob (.inl hr)
    · obtain ⟨o', q1⟩ := un.there b o0 h0 (by simp)
      have := kept b o' q1 ⟨o0, h0⟩ hb
      rw [ho] at this; cases this
      exact cov b o q1 (.inr (.inl ⟨⟨o0, h0⟩, hb, by rw [hex]; simp⟩))
structure HasW (P : Program) (w : World) (K : PySem.W.Frag) (mg : Str -> Option Value) (base : Heap) (k : Nat) (x : Str) (n : Nat) (F : List W -> List Cell -> R W) : Prop where
  ex : ∃ (f : Addr) (fd : FuncData) (ps : List Str), mg x = some (.ref f) /\ PySem.W.keepIn K (.ref f) = true /\ ps.length = n /\ Binds K fd ps [] /\ FnOk P w K mg base (CX1 P w) k f fd ps (spW K mg n F)
theorem HasW.mono {P : Program} {w : World} {K : PySem.W.Frag} {mg : Str -> Option Value} {base : Heap} {j k : Nat} {x : Str} {n : Nat} {F : List W -> List Cell -> R W} (h : HasW P w K mg base j x n F) (hj : j <= k) : HasW P w K mg base k x n F := by
  obtain ⟨f, fd, ps, a, b, c, d, e⟩ := h.ex
  exact ⟨f, fd, ps, a, b, c, d, e.mono hj⟩
def eDef (n : Nat) (F : List W -> List Cell -> R W) (fs : FA) : FE := fun ρ st => (fs ρ st).bind fun ws st => if ws.length = n then F ws st else .bad
section
variable {X : Cx}
theorem run_W {k n : Nat} {f : Addr} {fd : FuncData} {ps : List Str} {F : List W -> List Cell -> R W} {pins : List (Addr × Obj)} {σ : St} {H : Hp} {s : Shared} {Q : VK} {us : List Value} {vs : List V} {μ : List Addr} {st : List Cell} {ws : List W}
    (Fn : FnOk X.prog X.w X.K X.mg X.base (CX1 X.prog X.w) k f fd ps (spW X.K X.mg n F)) (hn : ps.length = n) (hr : Room k X.A) (hb : Binds X.K fd ps []) (I : Inv X pins σ H s) (S : StR X.K X.mg μ st H) (r : RelWs X.K μ H ws vs) (rv : Vals vs us) (hl : ws.length = n)
    (h : RK X (relW X) μ σ H Q (F ws st)) : wpAny (model X.prog X.w) X.A (call (.ref f) us) (EP X pins σ Q) X.xe s := by
  have hl' : (us ++ ([] : List Value)).length = ps.length := by rw [List.append_nil, <- rv.length, <- r.len, hl, hn]
  cases e : F ws st with
  | bad => rw [e] at h; exact h.elim
  | ok w st' =>
    rw [e] at h
    refine wpAny_call (codeAny_mono (Fn.run X.A X.stack s H ⟨us, []⟩ us vs Q (fun _ _ _ => False) hr I.env0 (by have := hb s us I.kIn hl'; rwa [List.append_nil] at this) rv ⟨by rw [<- r.len]; exact hl, μ, ws, st, S, r, by rw [e]; exact h⟩) fun r s' hq => ?_)
    cases r with
    | error e => obtain ⟨_, _, _, _, _, _, z, _⟩ := hq; exact z.elim
    | ok fl =>
      cases fl with
      | ret u => exact I.after hq
      | next => exact False.elim hq
      | brk => exact False.elim hq
      | cont => exact False.elim hq
  | ex c st' =>
    rw [e] at h
    refine wpAny_call (codeAny_mono (Fn.run X.A X.stack s H ⟨us, []⟩ us vs (fun _ _ => False) (fun C _ H' => X.mg c = some C /\ ∃ μ', μ <+: μ' /\ Ext X.K H H' /\ StR X.K X.mg μ' st' H') hr I.env0 (by have := hb s us I.kIn hl'; rwa [List.append_nil] at this) rv
      ⟨by rw [<- r.len]; exact hl, μ, ws, st, S, r, by rw [e]; exact fun C μ' H' hC p x S' => ⟨hC, μ', p, x, S'⟩⟩) fun r s' hq => ?_)
    cases r with
    | ok fl =>
      cases fl with
      | ret u => obtain ⟨_, _, _, _, _, _, _, z⟩ := hq; exact z.elim
      | next => exact False.elim hq
      | brk => exact False.elim hq
      | cont => exact False.elim hq
    | error ev =>
      obtain ⟨x, C, t, B, H', rfl, ⟨hC, μ', p, xx, S'⟩, os, bare, un, hok, hx, fl, cov⟩ := hq
      have I' : Inv X pins σ H' s' := I.call' os un hok bare fun b hb => absurd hb (by simp)
      refine h pins μ' H' (.ref x) s' p xx S' ⟨I', x, C, t, B, rfl, hC, hx, fl.1, fl.2.1, fl.2.2.1, .inl fl.2.2.2, fun b o ho hrel => ?_⟩
      refine cov b o ho ?_
      rcases hrel with q | ⟨⟨o0, h0⟩, hb, hbx⟩ | ⟨⟨y, hy⟩, hb⟩ | ⟨pp, hp, rfl⟩
      · exact .inl q
      · refine .inr ⟨?_, fun z => ?_⟩
        · obtain ⟨o', q1⟩ := I.base.there b o0 h0 hbx
          exact ⟨o', q1⟩
        · rcases List.mem_cons.mp (I.stkSub b z) with z | z
          · rw [z] at h0
            exact absurd (Nat.lt_of_lt_of_le (Heap.lt_size h0) I.ok.above) (Nat.lt_irrefl _)
          · exact hb z
      · obtain ⟨v, ov, hov, _⟩ := I.cell y b hy
        exact .inr ⟨⟨_, hov⟩, hb⟩
      · obtain ⟨g1, g2, g3, g4, _⟩ := I.pin pp hp
        refine .inr ⟨⟨_, g1⟩, fun z => ?_⟩
        rcases List.mem_cons.mp (I.stkSub _ z) with z | z
        · exact g3 z
        · exact g4 z
variable {e : Expr} {es : List Expr} {pos p : Pos} {x : Str} {fs : FA}
theorem s_def {k k' n : Nat} {F : List W -> List Cell -> R W} (Fn : HasW X.prog X.w X.K X.mg X.base k x n F) (hr : Room k' X.A) (hk : k <= k') (ha : SA X (e :: es) fs) (hg : Gl X x := by rfl) (hdb : (x == ("__debug__" : Str)) = false := by decide)
    (he : starEach (e :: es) X.env = (false, eval e X.env) :: starEach es X.env := by rfl) (hpl : (backTo pos (starEach es X.env)).any (·.1) = false := by rfl) : SE X (.Call (.Name x p) (e :: es) [] pos) (eDef n F fs) := ⟨by
  intro pins s σ H Q I h
  obtain ⟨f, fd, ps, hm, hkp, hn, hb, Fo⟩ := (Fn.mono hk).ex
  refine wpAny_Call_Name_kw (ld_glob I hg hm ?_ hdb)
  obtain ⟨μ, ρ, st, l, h⟩ := h
  have h' : tA' X fs σ H fun vs H1 => ∃ μ1 st1 ws, Rl X μ1 ρ st1 σ H1 /\ RelWs X.K μ1 H1 ws vs /\ RK X (relW X) μ1 σ H1 Q (if ws.length = n then F ws st1 else .bad) :=
    ⟨μ, ρ, st, l, RK.bind h l fun μ1 st1 x v H1 p1 x1 l1 q1 h1 => ⟨μ1, st1, x, l1, q1, h1⟩⟩
  refine PySem.W.callWith_K (h₀ := X.base) I.ok.mod.kin hkp (thn (ha.h pos pins s σ H _ I h') fun us s1 ⟨vs, H1, I1, r, μ1, st1, ws, l1, r1, q⟩ => ⟨I1.kIn, ?_⟩) he hpl
  by_cases c : ws.length = n
  · rw [if_pos c] at q
    exact run_W Fo hn hr hb I1 l1.sto r1 r c q
  · rw [if_neg c] at q; exact q.elim⟩
theorem s_def0 {k k' : Nat} {F : List W -> List Cell -> R W} (Fn : HasW X.prog X.w X.K X.mg X.base k x 0 F) (hr : Room k' X.A) (hk : k <= k') (hg : Gl X x := by rfl) (hdb : (x == ("__debug__" : Str)) = false := by decide) : SE X (.Call (.Name x p) [] [] pos) (eDef 0 F aNil) := ⟨by
  intro pins s σ H Q I h
  obtain ⟨f, fd, ps, hm, hkp, hn, hb, Fo⟩ := (Fn.mono hk).ex
  obtain ⟨μ, ρ, st, l, h⟩ := h
  refine wpAny_Call_Name_kw (ld_glob I hg hm ?_ hdb)
  exact PySem.W.callWith_K0 I.kIn hkp (run_W (ws := []) (us := []) Fo hn hr hb I l.sto .nilI .nil rfl h)⟩
end
theorem fnW_of {P : Program} {w : World} {K : PySem.W.Frag} {mg : Str -> Option Value} {base : Heap} {x qual : Str} {st : Stmt} {f : Addr} {fd : FuncData} {N ps : List Str} {k n : Nat} {g : FS} (F : Fun K x qual st f fd) (S : FnScope N ps (defScope st)) (hn : ps.length = n)
    (hbody : ∀ (cdv : Value) (A : Around) (outer : List Env) (s : Shared) (H : Hp) (E : XK), Room k (A.deeper (envOfC qual (defScope st) s.heap.objs.size f cdv)) ->
      SB (cxOf (CX1 P w) P w K mg base N qual (defScope st) f cdv A outer s H E) (defBody st) g) : FnOk P w K mg base (CX1 P w) (k + 1) f fd ps (spW K mg n (runF N.length g)) := by
  obtain ⟨oc, od, kV, doc, pm, an, cdv, ct, osl, rfl, lk, hcd⟩ := F.ex
  refine fn_of lk hcd S (fun vs H Q E h => by rw [hn]; exact h.1) fun A outer s H vs Q E hr hsp => ?_
  obtain ⟨hl, μ, ws, st0, Sr, r, h⟩ := hsp
  refine ⟨_, (hbody cdv A outer s H E hr).h, μ, ws.map some ++ List.replicate (N.length - ws.length) none, st0, ⟨?_, Sr⟩, ?_⟩
  · unfold start
    rw [<- r.len]
    have base : ∀ (ws : List W) (vs : List V) (m : Nat), RelWs K μ H ws vs -> Paired (fun (o : Option W) (s : Option V) => ∀ w, o = some w -> ∃ v, s = some v /\ RelW K μ H w v) (ws.map some ++ List.replicate m none) (vs.map some ++ List.replicate m none) := by
      intro ws
      induction ws with
      | nil =>
        intro vs m r
        rw [r.nilE]
        induction m with
        | zero => exact .nil
        | succ m ih => exact .cons (fun w z => nomatch z) ih
      | cons w ws ih =>
        intro vs m r
        obtain ⟨y, ys, rfl, ry, rys⟩ := r.consE
        exact .cons (fun w' z => ⟨y, rfl, by cases z; exact ry⟩) (ih ys m rys)
    exact base ws vs _ r
  · unfold runF at h
    cases e : g (ws.map some ++ List.replicate (N.length - ws.length) none) st0 with
    | rt w st' =>
      rw [e] at h
      intro μ' v H' p x S' rw'
      obtain ⟨μ2, p2, S2, r2⟩ := trunc_ok Sr S' p (.consI rw' .nilI)
      obtain ⟨_, e2, r3⟩ := r2.one
      cases e2
      exact h μ2 v H' p2 x S2 r3
    | nx ρ' st' =>
      rw [e] at h
      intro μ' σ' H' p x l'
      obtain ⟨μ2, p2, S2, _⟩ := trunc_ok (ws := []) (vs := []) Sr l'.sto p .nilI
      exact h μ2 .non H' p2 x S2 .non
    | ex c ρ' st' =>
      rw [e] at h
      intro pins μ' σ' H' ev s' p x l' fl
      obtain ⟨μ2, p2, S2, _⟩ := trunc_ok (ws := []) (vs := []) Sr l'.sto p .nilI
      exact fl.leaves rfl rfl fl.inv.ok.frames rfl fun C hC => h C μ2 H' hC p2 x S2
    | bk ρ' st' => rw [e] at h; exact h.elim
    | ct ρ' st' => rw [e] at h; exact h.elim
    | bad => rw [e] at h; exact h.elim
theorem hasW_mk {P : Program} {w : World} {K : PySem.W.Frag} {mg : Str -> Option Value} {base : Heap} {k n : Nat} {x : Str} {st : Stmt} {f : Addr} {fd : FuncData} {ps : List Str} {G : List W -> List Cell -> R W}
    (F : Fun K x x st f fd) (hm : mg x = some (.ref f)) (hn : ps.length = n)
    (hb : ∀ (kV doc pm : Value) (an : Option Addr) (cdv ct : Value) (us : List Value), us.length = ps.length -> bindArgs (PySem.W.fnOf x x (defArgs st) (defBody st) (defScope st) .none kV doc pm an cdv ct) ⟨us, []⟩ = pure (ps.zip us))
    (ok : FnOk P w K mg base (CX1 P w) k f fd ps (spW K mg n G)) : HasW P w K mg base k x n G := ⟨f, fd, ps, hm, F.kp, hn, F.binds hb, ok⟩
end L2
set_option Elab.async false
set_option linter.all false
set_option maxRecDepth 100000
set_option maxHeartbeats 4000000
namespace L2
open PySem PySem.Spec PyProof.Rows
theorem RelWs.split {K : PySem.W.Frag} {μ : List Addr} {H : Hp} : ∀ {as bs : List W} {vs : List V}, RelWs K μ H (as ++ bs) vs -> ∃ xs ys, vs = xs ++ ys /\ RelWs K μ H as xs /\ RelWs K μ H bs ys
  | [], _, vs, r => ⟨[], vs, rfl, .nilI, r⟩
  | w :: as, bs, vs, r => by
    obtain ⟨x, xs, rfl, rx, rs⟩ := r.consE
    obtain ⟨ys, zs, rfl, r1, r2⟩ := RelWs.split rs
    exact ⟨x :: ys, zs, rfl, .consI rx r1, r2⟩
section
variable {X : Cx} {a b c e o tg : Expr} {es : List Expr} {pos p p2 apos cpos : Pos} {x name : Str} {fa fb fe fo : FE} {fs : FA} {id : String}
structure MtW (X : Cx) (id : String) (F : W -> List W -> List Cell -> R W) : Prop where
  h : MtR X id (fun x vs H Q => ∃ μ st wx ws, StR X.K X.mg μ st H /\ RelW X.K μ H wx x /\ RelWs X.K μ H ws vs /\ OkW X μ H Q (F wx ws st))
  n : ∀ x ws st, noEx (F x ws st)
def isLst (st : List Cell) : W -> Bool
  | .loc n => (match st[n]? with | some (.lst _) => true | _ => false)
  | _ => false
def isStr : W -> Bool
  | .str _ => true
  | _ => false
theorem isLst_ok {μ : List Addr} {st : List Cell} {H : Hp} {w : W} {v : V} (S : StR X.K X.mg μ st H) (r : RelW X.K μ H w v) (h : isLst st w = true) : ∃ l ys, v = .ref l /\ H l = some (.lst ys) := by
  cases w with
  | loc n =>
    obtain ⟨a, ha, rfl⟩ := r.locE
    simp only [isLst] at h
    cases e1 : st[n]? with
    | none => rw [e1] at h; cases h
    | some cc =>
      rw [e1] at h
      cases cc with
      | lst ws => obtain ⟨a1, g1, vs, k1, _⟩ := S.get e1; rw [ha] at g1; cases g1; exact ⟨_, vs, rfl, k1⟩
      | _ => cases h
  | _ => cases h
def eML (F : W -> List W -> List Cell -> R W) (fo : FE) (fs : FA) : FE := fun ρ st => (fo ρ st).bind fun x st => if isLst st x then (fs ρ st).bind fun ws st => F x ws st else .bad
def eMS (F : W -> List W -> List Cell -> R W) (fo : FE) (fs : FA) : FE := fun ρ st => (fo ρ st).bind fun x st => if isStr x then (fs ρ st).bind fun ws st => F x ws st else .bad
theorem s_ml {F : W -> List W -> List Cell -> R W} (slot : Slot "list" name id) (hty : typeOf (.builtin id) = pure (.type "method_descriptor")) (hm : MtW X id F) (ho : SE X o fo) (ha : SA X (e :: es) fs)
    (hbase : attributeBase o name X.env (eval o X.env) = eval o X.env := by rfl)
    (hfew : ((backTo cpos (starEach (e :: es) X.env)).all (fun x => !x.1) && (backToKw cpos (keywordEach [] X.env)).all (fun x => x.1.isSome)
      && decide ((e :: es).length + ([] : List Keyword).length + (if ([] : List Keyword).isEmpty then 0 else 1) < 30)) = true := by rfl)
    (hline : (apos.endLine == cpos.line) = true := by rfl) (hs : starEach (e :: es) X.env = (false, eval e X.env) :: starEach es X.env := by rfl) (hplain : (backTo cpos (starEach es X.env)).any (·.1) = false := by rfl) :
    SE X (.Call (.Attribute o name apos) (e :: es) [] cpos) (eML F fo fs) := ⟨(pe_ml slot hty hm.h ho.h ha.h hbase hfew hline hs hplain).imp fun σ H Q h => by
  obtain ⟨μ, ρ, st, l, h⟩ := h
  refine ⟨μ, ρ, st, l, RK.bind h l fun μ1 st1 x v H1 p1 x1 l1 q1 h1 => ?_⟩
  by_cases c : isLst st1 x = true
  · rw [if_pos c] at h1
    refine ⟨isLst_ok l1.sto q1 c, μ1, ρ, st1, l1, RK.bind h1 l1 fun μ2 st2 ws vs H2 p2 x2 l2 q2 h2 => ?_⟩
    exact ⟨μ2, st2, x, ws, l2.sto, q1.mono p2 x2, q2, okW_of h2 (hm.n _ _ _)⟩
  · rw [if_neg c] at h1; exact h1.elim⟩
theorem s_ms {F : W -> List W -> List Cell -> R W} (slot : Slot "str" name id) (hty : typeOf (.builtin id) = pure (.type "method_descriptor")) (hm : MtW X id F) (ho : SE X o fo) (ha : SA X (e :: es) fs)
    (hbase : attributeBase o name X.env (eval o X.env) = eval o X.env := by rfl)
    (hfew : ((backTo cpos (starEach (e :: es) X.env)).all (fun x => !x.1) && (backToKw cpos (keywordEach [] X.env)).all (fun x => x.1.isSome)
      && decide ((e :: es).length + ([] : List Keyword).length + (if ([] : List Keyword).isEmpty then 0 else 1) < 30)) = true := by rfl)
    (hline : (apos.endLine == cpos.line) = true := by rfl) (hs : starEach (e :: es) X.env = (false, eval e X.env) :: starEach es X.env := by rfl) (hplain : (backTo cpos (starEach es X.env)).any (·.1) = false := by rfl) :
    SE X (.Call (.Attribute o name apos) (e :: es) [] cpos) (eMS F fo fs) := ⟨(pe_ms slot hty hm.h ho.h ha.h hbase hfew hline hs hplain).imp fun σ H Q h => by
  obtain ⟨μ, ρ, st, l, h⟩ := h
  refine ⟨μ, ρ, st, l, RK.bind h l fun μ1 st1 x v H1 p1 x1 l1 q1 h1 => ?_⟩
  cases x with
  | str z =>
    rw [if_pos (show isStr (W.str z) = true from rfl)] at h1
    refine ⟨⟨z, q1.strE⟩, μ1, ρ, st1, l1, RK.bind h1 l1 fun μ2 st2 ws vs H2 p2 x2 l2 q2 h2 => ?_⟩
    exact ⟨μ2, st2, _, ws, l2.sto, q1.mono p2 x2, q2, okW_of h2 (hm.n _ _ _)⟩
  | _ => exact h1.elim⟩
def mAppend (x : W) (ws : List W) (st : List Cell) : R W := match x, ws with
  | .loc n, [y] => (match st[n]? with
    | some (.lst zs) => if zs.length < LIM then .ok .non (st.set n (.lst (zs ++ [y]))) else .bad
    | _ => .bad)
  | _, _ => .bad
theorem m_appendW : MtW X "list.append" mAppend := ⟨fun pins s σ H x vs v us Q I rv rus ⟨μ, st, wx, ws, S, rx, rs, q⟩ => by
  unfold mAppend at q
  split at q
  · rename_i n y
    obtain ⟨y1, rfl, ry⟩ := rs.one
    split at q
    · rename_i zs e1
      split at q
      · rename_i c
        obtain ⟨a1, g1, vs, k1, r⟩ := S.get e1
        obtain ⟨b1, f1, rfl⟩ := rx.locE
        rw [g1] at f1; cases f1
        refine mt_appendF pins s σ H _ _ v us Q I rv rus ⟨a1, vs, y1, rfl, rfl, k1, by rw [<- r.len]; exact lim_lt (Nat.le_of_lt c), fun H2 e => ?_⟩
        subst e
        exact q μ _ _ (List.prefix_refl _) (SqT.but but_upd k1) (S.set e1 g1 k1 (r.app (.consI ry .nilI))) .non
      · exact q.elim
    · exact q.elim
  · exact q.elim, fun x ws st => by
  unfold mAppend
  repeat' split
  all_goals trivial⟩
def strs? : List W -> Option (List (List Nat))
  | [] => some []
  | .str l :: ws => (strs? ws).map (l :: ·)
  | _ => none
theorem strs?_ok {K : PySem.W.Frag} {μ : List Addr} {H : Hp} : ∀ {ws : List W} {ls : List (List Nat)} {vs : List V}, strs? ws = some ls -> RelWs K μ H ws vs -> vs = ls.map fun l => V.str (tx l)
  | [], ls, vs, h, r => by simp only [strs?] at h; cases h; exact r.nilE
  | w :: ws, ls, vs, h, r => by
    obtain ⟨x, xs, rfl, rx, rs⟩ := r.consE
    cases w with
    | str l =>
      simp only [strs?] at h
      cases e : strs? ws with
      | none => rw [e] at h; cases h
      | some ls' => rw [e] at h; cases h; rw [rx.strE, strs?_ok e rs]; rfl
    | _ => simp only [strs?] at h; cases h
theorem strs?_map (ls : List (List Nat)) : strs? (ls.map W.str) = some ls := by
  induction ls with
  | nil => rfl
  | cons a r ih => show (strs? (r.map W.str)).map (a :: ·) = _; rw [ih]; rfl
def mJoin (x : W) (ws : List W) (st : List Cell) : R W := match x, ws with
  | .str sep, [.loc n] => ofO (lstOf st n) fun zs => ofO (strs? zs) fun ls => if (ls.map List.length).sum + ls.length * sep.length <= LIM then .ok (.str (joinN sep ls)) st else .bad
  | _, _ => .bad
theorem m_joinW : MtW X "str.join" mJoin := ⟨fun pins s σ H x vs v us Q I rv rus ⟨μ, st, wx, ws, S, rx, rs, q⟩ => by
  unfold mJoin at q
  split at q
  · rename_i sep n
    obtain ⟨y1, rfl, ry⟩ := rs.one
    cases e1 : lstOf st n with
    | none => rw [e1] at q; exact q.elim
    | some zs =>
      rw [e1, ofO_some] at q
      cases e2 : strs? zs with
      | none => rw [e2] at q; exact q.elim
      | some ls =>
        rw [e2, ofO_some] at q
        split at q
        · rename_i c
          obtain ⟨a, vs, g, hS, r⟩ := S.lstOf e1
          obtain ⟨b1, f1, rfl⟩ := ry.locE
          rw [g] at f1; cases f1
          have := strs?_ok e2 r
          subst this
          exact mt_join pins s σ H _ _ v us Q I rv rus ⟨sep, _, ls, rx.strE, rfl, hS, Nat.le_trans c (by decide), okW_str S q⟩
        · exact q.elim
  · exact q.elim, fun x ws st => by
  unfold mJoin
  split
  · exact ofO_n fun _ => ofO_n fun _ => by split <;> trivial
  · trivial⟩
end
end L2
set_option Elab.async false
set_option linter.all false
set_option maxRecDepth 100000
set_option maxHeartbeats 4000000
namespace L2
open PySem PySem.Spec PyProof.Rows
def capW (cap : List (Option Nat)) (ρ : EnvW) : EnvW := cap.map fun o => o.bind fun j => (ρ[j]?).join
theorem capR {X : Cx} {μ : List Addr} {H : Hp} {ρ : EnvW} {σ : St} (r : Paired (fun (o : Option W) (s : Option V) => ∀ w, o = some w -> ∃ v, s = some v /\ RelW X.K μ H w v) ρ σ) : ∀ cap : List (Option Nat),
    Paired (fun (o : Option W) (s : Option V) => ∀ w, o = some w -> ∃ v, s = some v /\ RelW X.K μ H w v) (capW cap ρ) (capSt cap σ)
  | [] => .nil
  | o :: cap => by
    refine .cons (fun w e => ?_) (capR r cap)
    cases o with
    | none => cases e
    | some j =>
      have e' : (ρ[j]?).join = some w := e
      have e2 : ρ[j]? = some (some w) := by
        cases h : ρ[j]? with
        | none => rw [h] at e'; cases e'
        | some ow => rw [h] at e'; simp at e'; rw [e']
      obtain ⟨v, g1, g2⟩ := envR_get r e2
      exact ⟨v, by show (σ[j]?).join = some v; rw [g1]; rfl, g2⟩
open Classical in
noncomputable def compW (f : FG) (t : FT) (el : FE) (ck : Option (Nat × List W)) (ρ0 : EnvW) : List W -> List W -> List Cell -> R (List W)
  | [], acc, st => if chkOk st ck then .ok acc st else .bad
  | w :: ws, acc, st => if chkOk st ck then (match f w ρ0 with
    | none => .bad
    | some ρ' => (match t ρ' st with
      | .ok true st1 => (match el ρ' st1 with
        | .ok y st2 => compW f t el ck ρ0 ws (acc ++ [y]) st2
        | _ => .bad)
      | .ok false st1 => compW f t el ck ρ0 ws acc st1
      | _ => .bad)) else .bad
noncomputable def eComp (cap : List (Option Nat)) (fi : FI) (f : FG) (t : FT) (el : FE) : FE := fun ρ st => (fi ρ st).bind fun k st => if k.1.length <= LIM then (compW f t el k.2 (capW cap ρ) k.1 [] st).bind fun ys st => mkLst ys st else .bad
def tG0 {α β : Type} (X : Cx) (rel : List Addr -> Hp -> α -> β -> Prop) (f : EnvW -> List Cell -> R α) (σ : St) (H : Hp) (Q : β -> Hp -> Prop) : Prop :=
  ∃ μ ρ st a st', Rl X μ ρ st σ H /\ f ρ st = .ok a st' /\ ∀ μ' b H', μ <+: μ' -> Ext X.K H H' -> StR X.K X.mg μ' st' H' -> rel μ' H' a b -> Q b H'
def fYes : FT := fun _ st => .ok true st
structure STs (X : Cx) (es : List Expr) (f : FT) : Prop where
  h : PTs X es (tT X f)
theorem PTs.imp {X : Cx} {e : List Expr} {t t' : TT} (h : PTs X e t) (i : ∀ σ H Q, t' σ H Q -> t σ H Q) : PTs X e t' := fun pins s σ H Q I q => h pins s σ H Q I (i _ _ _ q)
theorem sts_nil {X : Cx} : STs X [] fYes := ⟨pts_nil.imp fun σ H Q h => by
  obtain ⟨μ, ρ, st, l, h⟩ := h
  exact h μ true H (List.prefix_refl _) Ext.refl l.sto rfl⟩
theorem sts_one {X : Cx} {c : Expr} {t : FT} (hc : ST X c t) : STs X [c] t := ⟨pts_one hc.h⟩
theorem comp_t {X : Cx} {cap : List (Option Nat)} {fi : FI} {f : FG} {t : FT} {el : FE} {σ : St} {H : Hp} {Q : VK} (h : tE X (eComp cap fi f t el) σ H Q) :
    tComp cap (fun σ H R => tG X (relI X) fi σ H R) (tTg X f) (tG0 X relB t) (tG0 X (relW X) el) σ H Q := by
  obtain ⟨μ, ρ, st, l, h⟩ := h
  refine ⟨μ, ρ, st, l, RK.bind h l fun μ1 st1 k J H1 p1 x1 l1 wk h1 => ?_⟩
  by_cases hz : k.1.length <= LIM
  · rw [if_pos hz] at h1
    refine ⟨fun i m ys H' => i <= k.1.length /\ m = k.1.length - i /\ ys.length <= i /\ ∃ μ' acc st', μ1 <+: μ' /\ Ext X.K H1 H' /\ Rl X μ' ρ st' σ H' /\ RelWs X.K μ' H' acc ys /\ RK X (relW X) μ' σ H' Q ((compW f t el k.2 (capW cap ρ) (k.1.drop i) acc st').bind fun ys st => mkLst ys st),
      ⟨_, Nat.zero_le _, rfl, Nat.le_refl _, μ1, [], st1, List.prefix_refl _, Ext.refl, l1, .nilI, h1⟩, ?_⟩
    rintro i m ys H' ⟨hi, rfl, hy, μ', acc, st', pm, xm, lm, ra, hm⟩
    by_cases hlt : i < k.1.length
    · rw [List.drop_eq_getElem_cons hlt] at hm
      unfold compW at hm
      by_cases ck : chkOk st' k.2
      · rw [if_pos ck] at hm
        obtain ⟨go, yld⟩ := (wk i μ' st' H' pm xm lm.sto ck).1 _ (List.getElem?_eq_getElem hlt)
        refine .inr ⟨go, fun x H2 hy2 => ?_⟩
        obtain ⟨y1, y2, y3⟩ := yld x H2 hy2
        cases hf : f k.1[i] (capW cap ρ) with
        | none => rw [hf] at hm; exact hm.elim
        | some ρ2 =>
          rw [hf] at hm
          simp only at hm
          have lb : Rl X μ' (capW cap ρ) st' (capSt cap σ) H2 := ⟨capR (lm.to (List.prefix_refl _) y1 y2).env cap, y2⟩
          refine ⟨μ', capW cap ρ, st', k.1[i], ρ2, lb, y3, hf, fun σ2 l2 => ?_⟩
          cases ht : t ρ2 st' with
          | bad => rw [ht] at hm; exact hm.elim
          | ex c s => rw [ht] at hm; exact hm.elim
          | ok kk st2 =>
            rw [ht] at hm
            refine ⟨μ', ρ2, st', kk, st2, l2, ht, fun μ3 b3 H3 p3 x3 S3 q3 => ?_⟩
            cases q3
            cases kk with
            | false =>
              exact ⟨_, by omega, hlt, rfl, by omega, μ3, acc, st2, pm.trans p3, xm.trans (y1.trans x3), lm.to p3 (y1.trans x3) S3, ra.mono p3 (y1.trans x3), RK.mono hm p3 (y1.trans x3)⟩
            | true =>
              rw [if_pos rfl]
              simp only at hm
              cases he : el ρ2 st2 with
              | bad => rw [he] at hm; exact hm.elim
              | ex c s => rw [he] at hm; exact hm.elim
              | ok w st3 =>
                rw [he] at hm
                refine ⟨μ3, ρ2, st2, w, st3, l2.to p3 x3 S3, he, fun μ4 b4 H4 p4 x4 S4 q4 => ?_⟩
                have pp := p3.trans p4
                have xx := y1.trans (x3.trans x4)
                exact ⟨Nat.lt_of_le_of_lt hy (Nat.lt_of_lt_of_le hlt (lim_le hz)), _, by omega, hlt, rfl, by simp; omega, μ4, acc ++ [w], st3, pm.trans pp, xm.trans xx, lm.to pp xx S4, (ra.mono pp xx).app (.consI q4 .nilI), RK.mono hm pp xx⟩
      · rw [if_neg ck] at hm; exact hm.elim
    · have hi' : i = k.1.length := by omega
      subst hi'
      rw [List.drop_of_length_le (Nat.le_refl _)] at hm
      unfold compW at hm
      by_cases ck : chkOk st' k.2
      · rw [if_pos ck] at hm
        obtain ⟨z1, z2⟩ := mkLst_ok lm.sto ra hm
        exact .inl ⟨(wk _ μ' st' H' pm xm lm.sto ck).2 (Nat.le_refl _), z1, fun p hp => z2 p _ hp rfl⟩
      · rw [if_neg ck] at hm; exact hm.elim
  · rw [if_neg hz] at h1; exact h1.elim
section
variable {X : Cx} {elt tg iter : Expr} {ifs : List Expr} {scope : Scope} {pos : Pos} {nm : List Str} {cap : List (Option Nat)} {fi : FI} {f : FG} {t : FT} {el : FE} {m : Nat}
theorem qe0 {X X' : Cx} {e : Expr} {f : FE} (hK : X'.K = X.K) (hm : X'.mg = X.mg) (h : SE X' e f) : QE X' e (tG0 X (relW X) f) := ⟨h.h.imp fun σ H Q ⟨μ, ρ, st, a, st', l, e, q⟩ => ⟨μ, ρ, st, ⟨by rw [hK]; exact l.env, by rw [hK, hm]; exact l.sto⟩, by rw [e]; exact fun μ' b H' p x S r => q μ' b H' p (by rw [<- hK]; exact x) (by rw [<- hK, <- hm]; exact S) (by show RelW X.K μ' H' a b; rw [<- hK]; exact r)⟩⟩
theorem qt0 {X X' : Cx} {e : List Expr} {f : FT} (hK : X'.K = X.K) (hm : X'.mg = X.mg) (h : STs X' e f) : QTs X' e (tG0 X relB f) := ⟨h.h.imp fun σ H Q ⟨μ, ρ, st, a, st', l, e, q⟩ => ⟨μ, ρ, st, ⟨by rw [hK]; exact l.env, by rw [hK, hm]; exact l.sto⟩, by rw [e]; exact fun μ' b H' p x S r => q μ' b H' p (by rw [<- hK]; exact x) (by rw [<- hK, <- hm]; exact S) r⟩⟩
theorem qg0 {X X' : Cx} {e : Expr} {f : FG} (hK : X'.K = X.K) (hm : X'.mg = X.mg) (h : SG X' e f) : QG X' e (tTg X f) := ⟨h.h.imp fun v σ H Q ⟨μ, ρ, st, w, ρ', l, r, e, q⟩ => ⟨μ, ρ, st, w, ρ', ⟨by rw [hK]; exact l.env, by rw [hK, hm]; exact l.sto⟩, by rw [hK]; exact r, e, fun σ' l' => q σ' ⟨by rw [<- hK]; exact l'.env, by rw [<- hK, <- hm]; exact l'.sto⟩⟩⟩
theorem s_comp (hB : capB X.env.scope.names scope.names nm cap X.N = true) (hcells : X.env.cells = cellsFrom m X.env.scope.names []) (hi : SI X tg iter fi) (hg : ∀ cl C s0 H0 fp, SG (cxComp X nm scope cl C s0 H0 fp) tg f) (ht : ∀ cl C s0 H0 fp, STs (cxComp X nm scope cl C s0 H0 fp) ifs t)
    (he : ∀ cl C s0 H0 fp, SE (cxComp X nm scope cl C s0 H0 fp) elt el) (hcalm : X.calm = true := by rfl) (hkind : scope.kind = .function := by rfl) (hs : ∀ x, foldedSetIterable iter X.env x = pure x := by intro _; rfl) :
    SE X (.ListComp elt [⟨tg, iter, ifs, 0⟩] scope pos) (eComp cap fi f t el) :=
  ⟨(q_comp hcalm hcells hkind hB ⟨hi.h⟩ (fun cl C s0 H0 fp => qg0 (X := X) rfl rfl (hg cl C s0 H0 fp)) (fun cl C s0 H0 fp => qt0 (X := X) rfl rfl (ht cl C s0 H0 fp)) (fun cl C s0 H0 fp => qe0 (X := X) rfl rfl (he cl C s0 H0 fp)) hs).h.imp fun _ _ _ h => comp_t h⟩
theorem ss_setComp {x0 : Str} {p0 p1 : Pos} {i : Nat} (hgx : SG X (.Name x0 p0) (gNm i)) (hB : capB X.env.scope.names scope.names nm cap X.N = true) (hcells : X.env.cells = cellsFrom m X.env.scope.names []) (hi : SI X tg iter fi) (hg : ∀ cl C s0 H0 fp, SG (cxComp X nm scope cl C s0 H0 fp) tg f) (ht : ∀ cl C s0 H0 fp, STs (cxComp X nm scope cl C s0 H0 fp) ifs t)
    (he : ∀ cl C s0 H0 fp, SE (cxComp X nm scope cl C s0 H0 fp) elt el) (hcalm : X.calm = true := by rfl) (hkind : scope.kind = .function := by rfl) (hs : ∀ x, foldedSetIterable iter X.env x = pure x := by intro _; rfl)
    (hsw : swapsWith (.ListComp elt [⟨tg, iter, ifs, 0⟩] scope pos) (some (.Name x0 p0)) p1.line X.env = pure true := by first | rfl | kernel_rfl) :
    SS X (.Assign [.Name x0 p0] (.ListComp elt [⟨tg, iter, ifs, 0⟩] scope pos) p1) (xAsg (eComp cap fi f t el) (gNm i)) :=
  ⟨(qs_setComp ⟨hgx.h⟩ hcalm hcells hkind hB ⟨hi.h⟩ (fun cl C s0 H0 fp => qg0 (X := X) rfl rfl (hg cl C s0 H0 fp)) (fun cl C s0 H0 fp => qt0 (X := X) rfl rfl (ht cl C s0 H0 fp)) (fun cl C s0 H0 fp => qe0 (X := X) rfl rfl (he cl C s0 H0 fp)) hs hsw).h.imp fun D σ H h => by
    obtain ⟨μ, ρ, st, l, h⟩ := h
    have h' : tE X (eComp cap fi f t el) σ H fun x H1 => tTg X (gNm i) x σ H1 D.nx := ⟨μ, ρ, st, l, RK.stmt h l fun μ1 st1 x v H1 p1 x1 l1 q1 h1 => ⟨μ1, ρ, st1, x, ρ.set i (some x), l1, q1, rfl, fun σ' l' => h1 μ1 σ' H1 (List.prefix_refl _) Ext.refl l'⟩⟩
    exact comp_t h'⟩
end
end L2
set_option Elab.async false
set_option linter.all false
set_option maxRecDepth 100000
set_option maxHeartbeats 4000000
namespace L2
open PySem PySem.Spec PyProof.Rows
section
variable {X : Cx} {a b c e o tg : Expr} {es : List Expr} {pos p p2 apos cpos : Pos} {x name : Str} {fa fb fc fe fo : FE} {fs : FA}
theorem walk_vals {μ : List Addr} {H : Hp} {ws : List W} {vals : List V} (hr : ∀ μ H, RelWs X.K μ H ws vals) : WalkOk X (Itv vals) (ws, none) μ H := fun i μ' st' H' pp xx S _ => by
  have hl : ws.length = vals.length := (hr μ H).len
  refine ⟨fun w hw => ?_, fun h => by show vals.length <= i; rw [<- hl]; exact h⟩
  obtain ⟨v, g1, g2⟩ := (hr μ' H').get hw
  refine ⟨(List.getElem?_eq_some_iff.mp g1).1, fun y H'' hy => ?_⟩
  obtain ⟨rfl, hy⟩ := hy
  rw [g1] at hy; cases hy
  exact ⟨Ext.refl, S, g2⟩
def signsW (l : List Nat) : List W := l.map fun c => .str [c]
theorem signs_rel (l : List Nat) (μ : List Addr) (H : Hp) : RelWs X.K μ H (signsW l) (signsV l) := by
  induction l with
  | nil => exact .nilI
  | cons a r ih => exact .consI .str ih
def itStr (fe : FE) : FI := fun ρ st => (fe ρ st).bind fun x st => match x with
  | .str l => .ok (signsW l, none) st
  | _ => .bad
theorem si_str (he : SE X e fe) : SI X tg e (itStr fe) := ⟨(pi_str he.h).imp fun σ H R h => by
  obtain ⟨μ, ρ, st, l, h⟩ := h
  refine ⟨μ, ρ, st, l, RK.bind h l fun μ1 st1 x v H1 p1 x1 l1 q1 h1 => ?_⟩
  cases x with
  | str z => exact ⟨z, q1.strE, h1 μ1 _ H1 (List.prefix_refl _) Ext.refl l1.sto (walk_vals (signs_rel z))⟩
  | _ => exact h1.elim⟩
def itAny (fe : FE) : FI := fun ρ st => (fe ρ st).bind fun x st => match x with
  | .tup ws => .ok (ws, none) st
  | .loc n => (match lstOf st n with
    | some ws => .ok (ws, some (n, ws)) st
    | none => .bad)
  | .str l => .ok (signsW l, none) st
  | _ => .bad
theorem si_any (he : SE X e fe) : SI X tg e (itAny fe) := ⟨fun pins s σ H Rr I h => by
  obtain ⟨μ, ρ, st, l, h⟩ := h
  cases e1 : fe ρ st with
  | bad => simp only [itAny, e1, R.bind_bad] at h; exact h.elim
  | ex c st1 =>
    refine (si_tup (tg := tg) he).h pins s σ H Rr I ⟨μ, ρ, st, l, ?_⟩
    simp only [itAny, itTup, e1, R.bind_ex] at h ⊢; exact h
  | ok w st1 =>
    cases w with
    | tup ws =>
      refine (si_tup (tg := tg) he).h pins s σ H Rr I ⟨μ, ρ, st, l, ?_⟩
      simp only [itAny, itTup, e1, R.bind_ok] at h ⊢; exact h
    | loc n =>
      refine (si_lst (tg := tg) he).h pins s σ H Rr I ⟨μ, ρ, st, l, ?_⟩
      simp only [itAny, itLst, e1, R.bind_ok] at h ⊢; exact h
    | str z =>
      refine (si_str (tg := tg) he).h pins s σ H Rr I ⟨μ, ρ, st, l, ?_⟩
      simp only [itAny, itStr, e1, R.bind_ok] at h ⊢; exact h
    | _ => simp only [itAny, e1, R.bind_ok] at h; exact h.elim⟩
def eChain (f f' : W -> W -> List Cell -> R W) (fa fb fc : FE) : FE := fun ρ st => (fa ρ st).bind fun x st => (fb ρ st).bind fun y st => (f x y st).bind fun z st => match z with
  | .bl true => (fc ρ st).bind fun w st => f' y w st
  | .bl false => .ok (.bl false) st
  | _ => .bad
theorem chain_t {f f' : W -> W -> List Cell -> R W} {σ : St} {H : Hp} {Q : VK} (n : ∀ x y st, noEx (f x y st)) (n' : ∀ x y st, noEx (f' x y st)) (h : tE X (eChain f f' fa fb fc) σ H Q) : tChain (rW2 X f) (rW2 X f') (tE X fa) (tE X fb) (tE X fc) σ H Q := by
  obtain ⟨μ, ρ, st, l, h⟩ := h
  refine ⟨μ, ρ, st, l, RK.bind h l fun μ1 st1 x v H1 p1 x1 l1 q1 h1 => ⟨μ1, ρ, st1, l1, RK.bind h1 l1 fun μ2 st2 y u H2 p2 x2 l2 q2 h2 => ⟨μ2, st2, x, y, l2.sto, q1.mono p2 x2, q2, okW_of (σ := σ) (RK.bind h2 l2 fun μ3 st3 z t H3 p3 x3 l3 q3 h3 => ?_) (n _ _ _)⟩⟩⟩
  cases z with
  | bl k =>
    refine ⟨k, q3.blE, ?_⟩
    cases k with
    | false => exact h3 μ3 _ H3 (List.prefix_refl _) Ext.refl l3.sto .bl
    | true =>
      refine ⟨μ3, ρ, st3, l3, RK.bind h3 l3 fun μ4 st4 w s H4 p4 x4 l4 q4 h4 => ?_⟩
      exact ⟨μ4, st4, y, w, l4.sto, (q2.mono p3 x3).mono p4 x4, q4, okW_of h4 (n' _ _ _)⟩
  | _ => exact h3.elim
theorem s_chain {op op' : CmpOp} {f f' : W -> W -> List Cell -> R W} (ho : OpW X (compareOp op) f) (ho' : OpW X (compareOp op') f') (ha : SE X a fa) (hb : SE X b fb) (hc : SE X c fc) (hm : lastMarks [op, op'] [b, c] = false := by with_unfolding_all rfl) : SE X (.Compare a [op, op'] [b, c] pos) (eChain f f' fa fb fc) := ⟨(pe_chain ho.h ho'.h ha.h hb.h hc.h hm).imp fun _ _ _ h => chain_t ho.n ho'.n h⟩
def eNeg (fa : FE) : FE := fun ρ st => (fa ρ st).bind fun x st => match x with
  | .int i => .ok (.int (-i)) st
  | _ => .bad
theorem s_neg (ha : SE X a fa) : SE X (.UnaryOp .USub a pos) (eNeg fa) := ⟨(pe_un un_neg ha.h).imp fun σ H Q h => by
  obtain ⟨μ, ρ, st, l, h⟩ := h
  refine ⟨μ, ρ, st, l, RK.bind h l fun μ1 st1 x v H1 p1 x1 l1 q1 h1 => ?_⟩
  cases x with
  | int k => exact ⟨k, q1.intE, h1 μ1 _ H1 (List.prefix_refl _) Ext.refl l1.sto .int⟩
  | _ => exact h1.elim⟩
def wLeD (x y : W) (st : List Cell) : R W := match x, y with
  | .int i, .int j => .ok (.bl (decide (i <= j))) st
  | .str [c], .str [d] => .ok (.bl (decide (c <= d))) st
  | _, _ => .bad
theorem w_leD : OpW X (compareOp .LtE) wLeD := ⟨fun pins s σ H x y v u Q I rv ru ⟨μ, st, wx, wy, S, rx, ry, q⟩ => by
  unfold wLeD at q
  split at q
  · exact op_le pins s σ H x y v u Q I rv ru ⟨_, _, rx.intE, ry.intE, okW_bl S q⟩
  · exact op_le_one pins s σ H x y v u Q I rv ru ⟨_, _, rx.strE, ry.strE, okW_bl S q⟩
  · exact q.elim, fun x y st => by unfold wLeD; split <;> trivial⟩
end
def insU (c : Nat) : List Nat -> List Nat
  | [] => [c]
  | d :: r => if c < d then c :: d :: r else if c = d then d :: r else d :: insU c r
def sortU (l : List Nat) : List Nat := l.foldr insU []
theorem mem_insU {c x : Nat} : ∀ {l : List Nat}, x ∈ insU c l ↔ x = c \/ x ∈ l
  | [] => by simp [insU]
  | d :: r => by
    unfold insU
    split
    · simp
    · split
      · rename_i h; subst h; simp
      · simp only [List.mem_cons, mem_insU]
        constructor
        · rintro (h | h | h) <;> simp [h]
        · rintro (h | h | h) <;> simp [h]
theorem insU_up {c : Nat} : ∀ {l : List Nat}, l.Pairwise (· < ·) -> (insU c l).Pairwise (· < ·)
  | [], _ => by simp [insU]
  | d :: r, h => by
    obtain ⟨h1, h2⟩ := List.pairwise_cons.mp h
    unfold insU
    split
    · rename_i hc
      refine List.pairwise_cons.mpr ⟨fun x hx => ?_, h⟩
      rcases List.mem_cons.mp hx with rfl | hx
      · exact hc
      · exact Nat.lt_trans hc (h1 x hx)
    · split
      · exact h
      · rename_i hc hd
        refine List.pairwise_cons.mpr ⟨fun x hx => ?_, insU_up h2⟩
        rcases mem_insU.mp hx with rfl | hx
        · omega
        · exact h1 x hx
theorem mem_sortU {x : Nat} {l : List Nat} : x ∈ sortU l ↔ x ∈ l := by
  induction l with
  | nil => simp [sortU]
  | cons a r ih => show x ∈ insU a (sortU r) ↔ _; rw [mem_insU, ih]; simp
theorem sortU_up (l : List Nat) : (sortU l).Pairwise (· < ·) := by
  induction l with
  | nil => exact List.Pairwise.nil
  | cons a r ih => exact insU_up ih
theorem up_one : ∀ {l m : List Nat}, l.Pairwise (· < ·) -> m.Pairwise (· < ·) -> (∀ x, x ∈ l ↔ x ∈ m) -> l = m
  | [], [], _, _, _ => rfl
  | [], b :: m, _, _, h => by have := (h b).mpr (by simp); simp at this
  | a :: l, [], _, _, h => by have := (h a).mp (by simp); simp at this
  | a :: l, b :: m, h1, h2, h => by
    obtain ⟨p1, p2⟩ := List.pairwise_cons.mp h1
    obtain ⟨q1, q2⟩ := List.pairwise_cons.mp h2
    have e : a = b := by
      rcases List.mem_cons.mp ((h a).mp (by simp)) with z | z
      · exact z
      · rcases List.mem_cons.mp ((h b).mpr (by simp)) with y | y
        · exact y.symm
        · have := p1 b y; have := q1 a z; omega
    subst e
    rw [up_one p2 q2 fun x => ?_]
    constructor
    · intro hx
      rcases List.mem_cons.mp ((h x).mp (List.mem_cons_of_mem _ hx)) with z | z
      · subst z; exact absurd (p1 x hx) (Nat.lt_irrefl _)
      · exact z
    · intro hx
      rcases List.mem_cons.mp ((h x).mpr (List.mem_cons_of_mem _ hx)) with z | z
      · subst z; exact absurd (q1 x hx) (Nat.lt_irrefl _)
      · exact z
def insT (c : List Nat) : List (List Nat) -> List (List Nat)
  | [] => [c]
  | d :: r => if c < d then c :: d :: r else d :: insT c r
def sortT (l : List (List Nat)) : List (List Nat) := l.foldr insT []
theorem insT_perm (c : List Nat) : ∀ l : List (List Nat), (insT c l).Perm (c :: l)
  | [] => List.Perm.refl _
  | d :: r => by
    unfold insT
    split
    · exact List.Perm.refl _
    · exact ((insT_perm c r).cons d).trans (List.Perm.swap c d r)
theorem sortT_perm (l : List (List Nat)) : (sortT l).Perm l := by
  induction l with
  | nil => exact List.Perm.refl _
  | cons a r ih => exact (insT_perm a _).trans (ih.cons a)
def upT : List (List Nat) -> Prop := List.Pairwise fun a b => ¬ b < a
theorem insT_up (c : List Nat) : ∀ {l : List (List Nat)}, upT l -> upT (insT c l)
  | [], _ => by simp [insT, upT]
  | d :: r, h => by
    obtain ⟨h1, h2⟩ := List.pairwise_cons.mp h
    unfold insT
    split
    · rename_i hc
      refine List.pairwise_cons.mpr ⟨fun x hx => ?_, h⟩
      rcases List.mem_cons.mp hx with rfl | hx
      · exact fun z => List.lt_irrefl _ (List.lt_trans z hc)
      · exact fun z => h1 x hx (List.lt_trans z hc)
    · rename_i hc
      refine List.pairwise_cons.mpr ⟨fun x hx => ?_, insT_up c h2⟩
      rcases List.mem_cons.mp ((insT_perm c r).mem_iff.mp hx) with rfl | hx
      · exact hc
      · exact h1 x hx
theorem sortT_up (l : List (List Nat)) : upT (sortT l) := by
  induction l with
  | nil => exact List.Pairwise.nil
  | cons a r ih => exact insT_up a ih
theorem upT_one : ∀ {l m : List (List Nat)}, upT l -> upT m -> l.Perm m -> l = m
  | [], m, _, _, h => (List.Perm.nil_eq h)
  | a :: l, [], _, _, h => (by have := h.length_eq; simp at this)
  | a :: l, b :: m, h1, h2, h => by
    obtain ⟨p1, p2⟩ := List.pairwise_cons.mp h1
    obtain ⟨q1, q2⟩ := List.pairwise_cons.mp h2
    have e : a = b := by
      rcases List.mem_cons.mp (h.mem_iff.mp (by simp : a ∈ a :: l)) with z | z
      · exact z
      · rcases List.mem_cons.mp (h.mem_iff.mpr (by simp : b ∈ b :: m)) with y | y
        · exact y.symm
        · exact List.le_antisymm (show a <= b from p1 b y) (show b <= a from q1 a z)
    subst e
    rw [upT_one p2 q2 (List.perm_cons a |>.mp h)]
theorem sortedS_up : ∀ {zs : List (List Nat)}, sortedS (zs.map tx) = true -> upT zs := by
  have key : ∀ (zs : List (List Nat)) (p : List Nat), risingS (tx p) (zs.map tx) = true -> upT (p :: zs) := by
    intro zs
    induction zs with
    | nil => intro p _; simp [upT]
    | cons a r ih =>
      intro p h
      have h' : (!ltCps a p && risingS (tx a) (r.map tx)) = true := h
      rw [Bool.and_eq_true, Bool.not_eq_true', ltCps_eq, decide_eq_false_iff_not] at h'
      have u := ih a h'.2
      refine List.pairwise_cons.mpr ⟨fun x hx => ?_, u⟩
      rcases List.mem_cons.mp hx with rfl | hx
      · exact h'.1
      · have := (List.pairwise_cons.mp u).1 x hx
        exact List.not_lt.mpr (List.le_trans (List.not_lt.mp h'.1) (List.not_lt.mp this))
  intro zs h
  cases zs with
  | nil => exact List.Pairwise.nil
  | cons a r => exact key r a h
section
variable {X : Cx} {a b c e o tg : Expr} {es : List Expr} {pos p p2 apos cpos : Pos} {x name : Str} {fa fb fc fe fo : FE} {fs : FA}
def bSorted (ws : List W) (st : List Cell) : R W := match ws with
  | [.loc n] => ofO (lstOf st n) fun zs => ofO (strs? zs) fun ls => if ls.length < 64 then .ok (.loc st.length) (st ++ [.lst ((sortT ls).map W.str)]) else .bad
  | _ => .bad
theorem strs_rel {K : PySem.W.Frag} {μ : List Addr} {H : Hp} (ls : List (List Nat)) : RelWs K μ H (ls.map W.str) (ls.map fun l => V.str (tx l)) := by
  induction ls with
  | nil => exact .nilI
  | cons a r ih => exact .consI .str ih
theorem b_sorted : CallW X (.builtin "sorted") bSorted := ⟨fun pins s σ H vs us Q I rv ⟨μ, st, ws, S, r, q⟩ => by
  unfold bSorted at q
  split at q
  · rename_i n
    obtain ⟨y, rfl, ry⟩ := r.one
    cases e1 : lstOf st n with
    | none => rw [e1] at q; exact q.elim
    | some zs =>
      rw [e1, ofO_some] at q
      cases e2 : strs? zs with
      | none => rw [e2] at q; exact q.elim
      | some ls =>
        rw [e2, ofO_some] at q
        split at q
        · rename_i c
          obtain ⟨a, vs, g, hS, rz⟩ := S.lstOf e1
          obtain ⟨b1, f1, rfl⟩ := ry.locE
          rw [g] at f1; cases f1
          have := strs?_ok e2 rz
          subst this
          refine c_sorted_strs.h pins s σ H _ us Q I rv ⟨_, ls, rfl, hS, c, fun zs hp hs l H2 hl eH => ?_⟩
          subst eH
          have ez : zs = sortT ls := upT_one (sortedS_up hs) (sortT_up ls) (hp.trans (sortT_perm ls).symm)
          subst ez
          exact q (μ ++ [l]) _ _ (List.prefix_append _ _) (SqT.same (same_new hl _)) (S.newLst hl (strs_rel _)) (newLoc S)
        · exact q.elim
  · exact q.elim, fun ws st => by
  unfold bSorted
  split
  · exact ofO_n fun _ => ofO_n fun _ => by split <;> trivial
  · trivial⟩
def oneSigns? : List W -> Option (List Nat)
  | [] => some []
  | .str [c] :: ws => (oneSigns? ws).map (c :: ·)
  | _ => none
theorem oneSigns?_ok {K : PySem.W.Frag} {μ : List Addr} {H : Hp} : ∀ {ws : List W} {l : List Nat} {vs : List V}, oneSigns? ws = some l -> RelWs K μ H ws vs -> vs = signsV l
  | [], l, vs, h, r => by simp only [oneSigns?] at h; cases h; exact r.nilE
  | w :: ws, l, vs, h, r => by
    obtain ⟨x, xs, rfl, rx, rs⟩ := r.consE
    unfold oneSigns? at h
    split at h
    · rename_i e; cases e
    · rename_i c ws' e
      cases e
      cases e2 : oneSigns? ws with
      | none => rw [e2] at h; cases h
      | some l' => rw [e2] at h; cases h; rw [rx.strE, oneSigns?_ok e2 rs]; rfl
    · cases h
def signsOf? : W -> Option (List Nat)
  | .str l => some l
  | .tup ws => oneSigns? ws
  | _ => none
def eSortSet (fe : FE) : FE := fun ρ st => (fe ρ st).bind fun x st => ofO (signsOf? x) fun l => if l.length < 4000 /\ (sortU l).length < 64 then .ok (.loc st.length) (st ++ [.lst (signsW (sortU l))]) else .bad
theorem nodup_sub_len {m l : List Nat} (hm : m.Nodup) (h : ∀ c ∈ m, c ∈ l) : m.length <= l.length := by
  induction m generalizing l with
  | nil => exact Nat.zero_le _
  | cons a r ih =>
    obtain ⟨h1, h2⟩ := List.nodup_cons.mp hm
    have ha : a ∈ l := h a (by simp)
    have := ih h2 (l := l.erase a) fun c hc => by
      have : c ≠ a := fun z => h1 (z ▸ hc)
      exact (List.mem_erase_of_ne this).mpr (h c (List.mem_cons_of_mem _ hc))
    rw [List.length_erase_of_mem ha] at this
    have : 0 < l.length := List.length_pos_of_mem ha
    simp; omega
theorem s_sortSet {p1 p2 pos1 pos2 : Pos} (h1 : X.mg "sorted" = none) (h3 : X.mg "set" = none) (he : SE X e fe) (hc : X.calm = true := by rfl)
    (hg1 : Gl X "sorted" := by rfl) (hg2 : Gl X "set" := by rfl) (hse : starEach [e] X.env = (false, eval e X.env) :: starEach [] X.env := by rfl) : SE X (.Call (.Name "sorted" p1) [.Call (.Name "set" p2) [e] [] pos2] [] pos1) (eSortSet fe) := ⟨(q_sortSet h1 h3 ⟨he.h⟩ hc hg1 hg2 hse).h.imp fun σ H Q h => by
  obtain ⟨μ, ρ, st, l, h⟩ := h
  refine ⟨μ, ρ, st, l, RK.bind h l fun μ1 st1 x v H1 p1 x1 l1 q1 h1 => ?_⟩
  cases e1 : signsOf? x with
  | none => rw [e1] at h1; exact h1.elim
  | some ll =>
    rw [e1, ofO_some] at h1
    split at h1
    · rename_i c
      refine ⟨ll, ?_, c.1, fun m hm hsub => ?_, fun m hnd hup hmem a H2 ha eH => ?_⟩
      · cases x with
        | str z => cases e1; exact .inl q1.strE
        | tup ws => obtain ⟨p, vs, rfl, hS, r⟩ := q1.tupE; have := oneSigns?_ok e1 r; subst this; exact .inr ⟨p, rfl, hS⟩
        | _ => cases e1
      · exact Nat.lt_of_le_of_lt (nodup_sub_len hm fun c hc => mem_sortU.mpr (hsub c hc)) c.2
      · subst eH
        have em : m = sortU ll := by
          refine up_one ((List.Pairwise.and hup hnd).imp fun z => Nat.lt_of_le_of_ne z.1 z.2) (sortU_up ll) fun x => ?_
          rw [hmem, mem_sortU]
        subst em
        exact h1 (μ1 ++ [a]) _ _ (List.prefix_append _ _) (SqT.same (same_new ha _)) (l1.sto.newLst ha (signs_rel (X := X) _ _ _)) (newLoc l1.sto)
    · exact h1.elim⟩
def bls? : List W -> Option (List Bool)
  | [] => some []
  | .bl k :: ws => (bls? ws).map (k :: ·)
  | _ => none
theorem bls?_ok {K : PySem.W.Frag} {μ : List Addr} {H : Hp} : ∀ {ws : List W} {ls : List Bool} {vs : List V}, bls? ws = some ls -> RelWs K μ H ws vs -> vs = ls.map V.bl
  | [], ls, vs, h, r => by simp only [bls?] at h; cases h; exact r.nilE
  | w :: ws, ls, vs, h, r => by
    obtain ⟨x, xs, rfl, rx, rs⟩ := r.consE
    cases w with
    | bl l =>
      simp only [bls?] at h
      cases e : bls? ws with
      | none => rw [e] at h; cases h
      | some ls' => rw [e] at h; cases h; rw [rx.blE, bls?_ok e rs]; rfl
    | _ => simp only [bls?] at h; cases h
def bAll (ws : List W) (st : List Cell) : R W := match ws with
  | [.loc n] => ofO (lstOf st n) fun zs => ofO (bls? zs) fun ls => .ok (.bl (ls.all id)) st
  | _ => .bad
theorem b_all (hc : X.calm = true := by rfl) : CallW X (.builtin "all") bAll := ⟨fun pins s σ H vs us Q I rv ⟨μ, st, ws, S, r, q⟩ => by
  unfold bAll at q
  split at q
  · rename_i n
    obtain ⟨y, rfl, ry⟩ := r.one
    cases e1 : lstOf st n with
    | none => rw [e1] at q; exact q.elim
    | some zs =>
      rw [e1, ofO_some] at q
      cases e2 : bls? zs with
      | none => rw [e2] at q; exact q.elim
      | some ls =>
        rw [e2, ofO_some] at q
        obtain ⟨a, vs, g, hS, rz⟩ := S.lstOf e1
        obtain ⟨b1, f1, rfl⟩ := ry.locE
        rw [g] at f1; cases f1
        have := bls?_ok e2 rz
        subst this
        exact (c_all hc).h pins s σ H _ us Q I rv ⟨_, ls, rfl, hS, okW_bl S q⟩
  · exact q.elim, fun ws st => by
  unfold bAll
  split
  · exact ofO_n fun _ => ofO_n fun _ => trivial
  · trivial⟩
end
end L2
set_option Elab.async false
set_option linter.all false
set_option maxRecDepth 100000
set_option maxHeartbeats 4000000
namespace L2
open PySem PySem.Spec PyProof.Rows
def W.ty : W -> Option String
  | .non => some "NoneType" | .bl _ => some "bool" | .int _ => some "int" | .str _ => some "str" | .tup _ => some "tuple" | .loc _ => none
def isiT (t T : String) : Bool := (t == T) || (t == "bool" && T == "int")
theorem kit_W {K : PySem.W.Frag} {T : String} (h : knownT T) {w : W} {t : String} (hw : w.ty = some t) : PySem.W.kitOne K (.type t) (.type T) = some (isiT t T) := by
  cases w <;> simp only [W.ty] at hw <;> cases hw <;> (rcases h with rfl | rfl | rfl | rfl <;> rfl)
def eIsT (T : String) (fa : FE) : FE := fun ρ st => (fa ρ st).bind fun x st => match x.ty with
  | some t => .ok (.bl (isiT t T)) st
  | none => .bad
section
variable {X : Cx} {a b c e o tg : Expr} {es : List Expr} {pos p p2 apos cpos : Pos} {x name : Str} {fa fb fc fe fo : FE} {fs : FA}
theorem s_isT {T : String} {xT : Str} (hm : X.mg "isinstance" = none) (hT : X.mg xT = none) (hv : bootBuiltins xT = some (.type T)) (ha : SE X a fa) (hk : knownT T := by first | exact .inl rfl | exact .inr (.inl rfl) | exact .inr (.inr (.inl rfl)) | exact .inr (.inr (.inr rfl)))
    (hg : Gl X "isinstance" := by rfl) (hgT : Gl X xT := by rfl) (hn : xT ≠ "__name__" := by decide) (hd : (xT == ("__debug__" : Str)) = false := by decide)
    (he : starEach [a, .Name xT p2] X.env = (false, eval a X.env) :: starEach [.Name xT p2] X.env := by rfl) (he2 : starEach [.Name xT p2] X.env = (false, eval (.Name xT p2) X.env) :: starEach [] X.env := by rfl) (hpl : (backTo pos (starEach [.Name xT p2] X.env)).any (·.1) = false := by rfl) :
    SE X (.Call (.Name "isinstance" p) [a, .Name xT p2] [] pos) (eIsT T fa) := by
  have C : CallR X (.builtin "isinstance") (fun xs H Q => ∃ x μ st w t, xs = [x, .ty T] /\ StR X.K X.mg μ st H /\ RelW X.K μ H w x /\ w.ty = some t /\ Q (.bl (isiT t T)) H) := by
    intro pins s σ H xs us Q I r h
    obtain ⟨x, μ, st, w, t, rfl, S, rx, ht, q⟩ := h
    obtain ⟨u, u2, rfl, r1, r2⟩ := Vals.two r
    obtain rfl : u2 = .type T := r2
    have e := kit_W (K := X.K) hk ht
    cases w with
    | tup ws =>
      cases ht
      obtain ⟨p, vs, rfl, hS, _⟩ := rx.tupE
      cases (show u = Value.ref p from r1)
      obtain ⟨its, _, hp, _⟩ := I.tuple hS
      obtain ⟨o, h1, h2, _⟩ := hp
      exact PySem.W.kia_one PySem.W.kitx_tuple I.kIn ⟨o, h1, h2⟩ e (fun z => nomatch z) fun tk => ⟨.bl _, H, I.tok tk, rfl, q⟩
    | non => cases ht; cases rx.nonE; exact isinst_ok I r1 .non e fun tk => ⟨.bl _, H, I.tok tk, rfl, q⟩
    | bl b => cases ht; cases rx.blE; exact isinst_ok I r1 (.bl _) e fun tk => ⟨.bl _, H, I.tok tk, rfl, q⟩
    | int b => cases ht; cases rx.intE; exact isinst_ok I r1 (.int _) e fun tk => ⟨.bl _, H, I.tok tk, rfl, q⟩
    | str b => cases ht; cases rx.strE; exact isinst_ok I r1 (.str _) e fun tk => ⟨.bl _, H, I.tok tk, rfl, q⟩
    | loc b => cases ht
  refine ⟨(pe_callB C hg hm boot_isinstance (pa_cons ha.h (pa_cons (pe_bltn hgT hT hv (v := .ty T) rfl hn hd) pa_nil he2) he) (by decide) (by decide) he hpl).imp fun σ H Q h => ?_⟩
  obtain ⟨μ, ρ, st, l, h⟩ := h
  refine ⟨μ, ρ, st, l, RK.bind h l fun μ1 st1 x v H1 p1 x1 l1 q1 h1 => ?_⟩
  cases ht : x.ty with
  | none => rw [ht] at h1; exact h1.elim
  | some t =>
    rw [ht] at h1
    exact ⟨v, μ1, st1, x, t, rfl, l1.sto, q1, ht, h1 μ1 _ H1 (List.prefix_refl _) Ext.refl l1.sto .bl⟩
theorem hasW_bad {P : Program} {w : World} {K : PySem.W.Frag} {mg : Str -> Option Value} {base : Heap} {k n : Nat} {x : Str} {st : Stmt} {f : Addr} {fd : FuncData} {ps : List Str}
    (F : Fun K x x st f fd) (hm : mg x = some (.ref f)) (hn : ps.length = n)
    (hb : ∀ (kV doc pm : Value) (an : Option Addr) (cdv ct : Value) (us : List Value), us.length = ps.length -> bindArgs (PySem.W.fnOf x x (defArgs st) (defBody st) (defScope st) .none kV doc pm an cdv ct) ⟨us, []⟩ = pure (ps.zip us)) :
    HasW P w K mg base k x n (fun _ _ => .bad) := hasW_mk F hm hn hb ⟨fun vs H Q E h => by rw [hn]; exact h.1, fun _ _ _ _ _ _ _ _ _ _ _ _ _ h => by obtain ⟨_, _, _, _, _, _, z⟩ := h; exact z.elim⟩
end
def LawOk (F : List W -> List Cell -> R W) : Prop := ∀ ns : List Int, ns.length <= 63 -> ∃ st', F [.loc 0] [.ro (ns.map W.int)] = .ok (.bl true) st'
theorem walkW {l : PySem.W.OpenLaw} {k : Nat} {q : Program} {loose : List Str} {XP : (Str -> Option Value) -> Heap -> Prop} {YP : World -> Heap -> Prop} {d : DefRec} {K : Params -> PySem.W.Frag} {x : Str} {G : List W -> List Cell -> R W} (hn : l.most = some 63) (hdf : d.params.defaults = []) (hr : Room k callerA)
    (hY : ∀ (w : World) (h : Heap), YP w h -> (K w.params).In h)
    (F : ∀ (w : World) (mg : Str -> Option Value) (fa : Addr) (h : Heap), (K w.params).In h -> h.Ns mainGlobals mg -> mg d.name = some (.ref fa) ->
      ∃ fd : FuncData, (∀ (s : Shared) (u : Value), BindsTo s fd ⟨[u], []⟩ [(x, u)]) /\ ∀ base : Heap, (K w.params).In base -> base.Ns mainGlobals mg -> FnOk l.prog w (K w.params) mg base (CX1 l.prog w) k fa fd [x] (spW (K w.params) mg 1 G))
    (ok : LawOk G) : PySem.W.WalkO q loose XP YP l.row.toRowW d [] (fun f vs => PySem.call f vs) := by
  refine L2.walk_of (n := 63) (k := k) (x := x) (CX := fun w => CX1 l.prog w)
    (sp := fun w => fun vs H Q E => ∃ (a : Addr) (ns : List Int), vs = [.ref a] /\ SqL (K w.params) H a (ns.map V.int) /\ Only H /\ ns.length <= 63 /\ ∀ H', Q (.bl true) H') hn (by decide) hdf hr hY (fun w mg fa h h1 h2 h3 => ?_)
    (fun w H a ns hl hO hS => ⟨a, ns, rfl, hS, hO, hl, fun _ => rfl⟩) fun w H s e s' z => ?_
  · obtain ⟨fd, hb, ho⟩ := F w mg fa h h1 h2 h3
    refine ⟨fd, hb, fun base kb nb => (ho base kb nb).imp fun vs H Q E hh => ?_⟩
    obtain ⟨a, ns, rfl, hS, hO, hl, q⟩ := hh
    obtain ⟨st', e⟩ := ok ns hl
    have hro : RoL (K w.params) H a (ns.map V.int) := by
      rcases hS with (z | ⟨o, z⟩) | z
      · rcases hO a with y | ⟨o, xs, y⟩
        · rw [z] at y; cases y
        · rw [z] at y; cases y
      · exact .inl ⟨o, z⟩
      · exact .inr z
    have hr : RelWs (K w.params) [a] H (ns.map W.int) (ns.map V.int) := by
      clear hS hro e hl
      induction ns with
      | nil => exact .nilI
      | cons n r ih => exact .consI .int ih
    refine ⟨rfl, [a], [.loc 0], [.ro (ns.map W.int)], ⟨fun i j b ci cj c1 c2 r1 r2 m1 m2 => ?_, rfl, fun i c b c1 c2 => ?_⟩, .consI (.locI rfl) .nilI, ?_⟩
    · cases i with
      | zero => cases c1; cases r1
      | succ i => simp at c1
    · cases i with
      | zero => cases c1; cases c2; exact ⟨_, hro, hr⟩
      | succ i => simp at c1
    · rw [e]
      intro μ' v H' _ _ _ rv
      rw [rv.blE]; exact q H'
  · obtain ⟨_, _, _, _, _, _, z, _⟩ := z
    exact z
end L2
set_option Elab.async false
set_option linter.all false
set_option maxRecDepth 100000
set_option maxHeartbeats 4000000
namespace L2
open PySem PySem.Spec PyProof.Rows
abbrev bmVE : List Value := [.type "ValueError", .type "Exception", .type "BaseException", .type "object"]
abbrev newVE : String := "ValueError.__new__"
def mroK (K : PySem.W.Frag) (C : Addr) : List Value := match K.lookup C with
  | some ⟨_, _, .cls cd, _⟩ => cd.mro
  | _ => []
theorem exc_obj {K : PySem.W.Frag} {h : Heap} {C : Addr} {bmB : List Value} {newId : String} (X : K.In h) (q : PySem.W.excIn K C bmB newId = true) :
    ∃ bm N nm qn bs hdct sn sub ab col dd k0 k1 k2 k3 k5 mN, h.get? C = some (excClassObj nm qn C N bs bm hdct sn sub ab col dd k0 k1 k2 k3 k5 newId) /\ h.Ns N mN /\ mN "__init__" = none /\ OwnTail h bmB bm /\ mroK K C = .ref C :: bm := by
  have q0 := q
  unfold PySem.W.excIn at q
  split at q
  · rename_i dd cd sl ho
    split at q
    · rename_i C' bm k0 k1 k2 k3 n k5 hm hs
      simp only [Bool.and_eq_true, beq_iff_eq, Bool.not_eq_true'] at q
      obtain ⟨⟨⟨⟨⟨rfl, rfl⟩, hdel⟩, ht⟩, hok⟩, hni⟩ := q
      have hmro : mroK K C' = cd.mro := by unfold mroK; rw [ho]
      obtain ⟨nm, bs, mro, ns, qn, hd, sn, sub, ab, col, del⟩ := cd
      dsimp only at hm hdel hok hni hmro
      subst hm hdel
      have hsl : sl = #[k0, k1, k2, k3, some (.builtin n), k5] := by
        obtain ⟨l⟩ := sl
        simp only at hs
        rw [hs]
      subst hsl
      exact ⟨bm, ns, nm, qn, bs, hd, sn, sub, ab, col, dd, k0, k1, k2, k3, k5, _, X _ _ ho, .of_isNs (PySem.W.isNs_of_in X hok), PySem.W.nsMap_none_of_in X hok hni, PySem.W.tail_of_in X ht, hmro⟩
    · cases q
  · cases q
structure ExcW (K : PySem.W.Frag) (mg : Str -> Option Value) (x : Str) : Prop where
  ex : ∃ C, mg x = some (.ref C) /\ PySem.W.excIn K C bmVE newVE = true
def xRaise (c : Str) : FS := fun ρ st => .ex c ρ st
theorem ss_raise {X : Cx} {x : Str} {np cpos pos p' : Pos} {z : Str} {j : Nat} (hC : ExcW X.K X.mg x) (hcalm : X.calm = true := by rfl) (hg : Gl X x := by rfl) (hd : (x == ("__debug__" : Str)) = false := by decide)
    (he : starEach [.Constant (.str z) j p'] X.env = (false, eval (.Constant (.str z) j p') X.env) :: starEach [] X.env := by rfl) : SS X (.Raise (some (.Call (.Name x np) [.Constant (.str z) j p'] [] cpos)) none pos) (xRaise x) := ⟨by
  intro pins s σ H D I h
  obtain ⟨μ, ρ, st, l, h⟩ := h
  obtain ⟨C, hm, q⟩ := hC.ex
  have hh : X.A.handled = none := I.ok.hd hcalm
  obtain ⟨bm, N, nm, qn, bs, hdct, sn, sub, ab, col, dd, k0, k1, k2, k3, k5, mN, g1, g2, g3, g4, g5⟩ := exc_obj I.kIn q
  refine wpAny_Raise_call_subT (C := C) (nm := nm) (q := qn) (N := N) (bs := bs) (bm := bm) (hdct := hdct) (sn := sn) (sub := sub) (ab := ab) (col := col) (dd := dd) (k0 := k0) (k1 := k1) (k2 := k2) (k3 := k3) (k5 := k5)
    F.excBase_ValueError (mN := mN) (g4.hasType F.excBase_ValueError.hasBase) hh (by rw [he]; rfl) g3 (ld_glob I hg hm ⟨rfl, ?_⟩ hd)
  rw [he]
  refine Calls.evalArgs_plain ?_
  show wpAny _ _ (spliced ((false, eval (.Constant (.str z) j p') X.env) :: [])) _ _ s
  refine Calls.spliced_cons (wpAny_Constant_str (Calls.spliced_nil ?_))
  refine ⟨rfl, (by show 1 <= sizeLine; decide), g1, g2, g4, fun h' e hx => ?_⟩
  have I2 : Inv X pins σ H { s with heap := h', toks := s.toks + 1 } := I.kept hx.keeps
  have en : H e = none := by
    cases hu : H e with
    | none => rfl
    | some u =>
      obtain ⟨ob, hob⟩ := (I.hok e u hu).ex
      have := hx.new
      rw [show ({ s with toks := s.toks + 1 } : Shared).heap = s.heap from rfl] at this
      rw [hob] at this; cases this
  obtain ⟨t, ht1, ht2, ht3⟩ := hx.there
  have hin : ∀ env ∈ X.stack, ∀ b, env.frame = some b -> b ∈ frs X.stack := fun env he b hb => List.mem_filterMap.mpr ⟨env, he, hb⟩
  refine h pins μ σ H (.ref e) _ (List.prefix_refl _) Ext.refl l ⟨I2, e, .ref C, t, PySem.W.hideAll s.heap (frs X.stack), rfl, hm, en, fun b o hb => hx.keeps b o (PySem.W.of_hideAll _ hb), ?_, ?_, .inr (.inl ⟨_, _, ht1, rfl, rfl, rfl, rfl, rfl⟩), fun b o hb hr => ?_⟩
  · cases hq : (PySem.W.hideAll s.heap (frs X.stack)).get? e with
    | none => rfl
    | some o => have z := PySem.W.of_hideAll _ hq; have y := hx.new; rw [show ({ s with toks := s.toks + 1 } : Shared).heap = s.heap from rfl, z] at y; cases y
  · exact (PySem.W.funFrames_hide I.stack hin).of_keeps fun b o hb _ => ⟨o, hx.keeps b o hb, rfl⟩
  · have old : ∀ o0, s.heap.get? b = some o0 -> s.heap.get? b = some o := fun o0 h0 => by
      have h1 : h'.get? b = some o0 := hx.keeps b o0 h0
      have h2 : h'.get? b = some o := hb
      rw [h1] at h2; rw [<- h2]; exact h0
    have fin : ∀ o0, s.heap.get? b = some o0 -> b ∉ frs X.stack -> (PySem.W.hideAll s.heap (frs X.stack)).get? b = some o := fun o0 h0 hn => PySem.W.hideAll_get _ (old o0 h0) hn
    rcases hr with hr | ⟨⟨o0, h0⟩, hf, hbx⟩ | ⟨⟨y, hy⟩, hf⟩ | ⟨pp, hp, rfl⟩
    · cases hu : H b with
      | none => exact absurd hu hr
      | some u =>
        obtain ⟨ob, hob⟩ := (I.hok b u hu).ex
        exact fin ob hob fun z => by have := I.stkFree b z; rw [hu] at this; cases this
    · obtain ⟨o1, h1⟩ := I.base.there b o0 h0 hbx
      refine fin o1 h1 fun z => ?_
      rcases List.mem_cons.mp (I.stkSub b z) with z | z
      · rw [z] at h0; exact absurd (Nat.lt_of_lt_of_le (Heap.lt_size h0) I.ok.above) (Nat.lt_irrefl _)
      · exact hf z
    · obtain ⟨v, ov, hov, _⟩ := I.cell y b hy
      exact fin ov hov hf
    · obtain ⟨p1, p2, p3, p4, _⟩ := I.pin pp hp
      refine fin _ p1 fun z => ?_
      rcases List.mem_cons.mp (I.stkSub _ z) with z | z
      · exact p3 z
      · exact p4 z⟩
end L2
set_option Elab.async false
set_option linter.all false
set_option maxRecDepth 100000
set_option maxHeartbeats 4000000
namespace L2
open PySem PySem.Spec PyProof.Rows
theorem Inv.unbound {X : Cx} {pins : List (Addr × Obj)} {σ : St} {H : Hp} {s : Shared} {h' : Heap} {t' i : Nat} {x : Str} {v : Option Value} {m : Str -> Option Value} (I : Inv X pins σ H s) (hN : X.N.Nodup) (hi : X.N[i]? = some x) (hn : s.heap.Ns X.env.locals m)
    (hn' : h'.Ns X.env.locals (fun y => if y = x then v else m y)) (hs : Heap.SameBut X.env.locals s.heap h') : Inv X pins (σ.set i none) H { s with heap := h', toks := t' } := by
  obtain ⟨m0, hn0, hl⟩ := id I.loc
  have em : m0 = m := by
    obtain ⟨o, es, ep, a1, a2, a3, a4⟩ := hn0
    obtain ⟨o', es', ep', b1, b2, b3, b4⟩ := hn
    rw [a1] at b1; cases b1
    rw [a2] at b2; cases b2
    funext y; rw [<- a4, <- b4]
  subst em
  obtain ⟨oL, _, _, hoL, _⟩ := id hn0
  have cne := I.cne
  refine ⟨I.ok, I.os, I.bare, ⟨fun b o e n hb hx => ?_, fun b o e n hb hx => ?_, I.base.free, fun b o e hx => ?_, I.base.tups, I.base.frzs, I.base.tbls⟩, ⟨_, hn', fun j y w e1 e2 e3 => ?_⟩, fun y c e => ?_, I.free, I.freeC, fun p hp => ?_, fun b ob e => ?_, by simpa using I.len⟩
  · exact (hs.2 b (Nat.ne_of_lt (Nat.lt_of_lt_of_le (Heap.lt_size e) I.ok.above))).trans (I.base.keep b o e n hb hx)
  · obtain ⟨sl, e1⟩ := I.base.slot b o e n hb hx
    exact ⟨sl, (hs.2 b (Nat.ne_of_lt (Nat.lt_of_lt_of_le (Heap.lt_size e) I.ok.above))).trans e1⟩
  · obtain ⟨o', e1⟩ := I.base.there b o e hx
    exact ⟨o', (hs.2 b (Nat.ne_of_lt (Nat.lt_of_lt_of_le (Heap.lt_size e) I.ok.above))).trans e1⟩
  · by_cases hj : j = i
    · subst hj
      by_cases hlt : j < σ.length
      · rw [List.getElem?_set_self hlt] at e2; cases e2
      · rw [List.getElem?_eq_none (by simpa using hlt)] at e2; cases e2
    · rw [List.getElem?_set_ne (Ne.symm hj)] at e2
      obtain ⟨u', r', q⟩ := hl j y w e1 e2 e3
      refine ⟨u', r', ?_⟩
      rcases q with ⟨k, e⟩ | ⟨k, c, e, z⟩
      · refine .inl ⟨k, ?_⟩
        have : y ≠ x := fun e => hj (nodup_ix hN e1 (e ▸ hi))
        simp [this, e]
      · exact .inr ⟨k, c, e, z.sameBut hs (cne y c e)⟩
  · obtain ⟨w', z⟩ := I.cell y c e
    exact ⟨w', z.sameBut hs (cne y c e)⟩
  · obtain ⟨e, n, ne, nf, d⟩ := I.pin p hp
    exact ⟨(hs.2 p.1 ne).trans e, n, ne, nf, d⟩
  · refine (I.hok b ob e).stay (fun c w' hc q => (hs.2 c ?_).trans q) (fun _ q => q) fun _ _ q => q
    rintro rfl
    rcases hc with rfl | hc
    · rw [I.free] at e; cases e
    · rw [I.free] at hc; cases hc
theorem Flies.lands {X : Cx} {pins : List (Addr × Obj)} {σ : St} {c : Str} {H : Hp} {e : Value} {s : Shared} {Q : Unit -> Shared -> Prop} {E : Value -> Shared -> Prop} {M : Model} {outer : List Env} (f : Flies X pins σ c H e s) (hst : X.stack = X.env :: outer) (hfr : X.env.frame = some X.env.locals) (hA : X.A.frames = some X.stack)
    (h : ∀ x C t B h', e = .ref x -> X.mg c = some C -> H x = none -> Heap.FlyingW B X.stack x C (.ref t) h' -> s.heap.UpToSlots h' ->
      (∀ b o, s.heap.get? b = some o -> (H b ≠ none \/ ((∃ o0, X.s₀.heap.get? b = some o0) /\ b ∉ X.fs /\ b ∉ X.ex) \/ ((∃ y, X.env.cells.lookup y = some b) /\ b ∉ frs X.stack) \/ ∃ p ∈ X.pn ++ pins, p.1 = b) -> B.get? b = some o) -> Q () { s with heap := h' }) :
    wpAny M X.A (noteFrame e X.env) (fun _ s₂ => wpAny M X.A (setFlight e none) Q E s₂) E s := by
  obtain ⟨x, C, t, B, rfl, hC, hx, st, nx, ff, tr, cov⟩ := f.ex
  rw [hst] at ff hA
  rcases tr with tr | ⟨oe, vs, he, rfl, _, hd, h1, h0⟩ | ⟨L, hL, tr⟩
  · refine wpAny_looks_onW hA hfr ⟨st, nx, ff, tr⟩ fun h1 hh u1 => wpAny_landsW hh fun h2 fl u2 => ?_
    exact h x C t B h2 rfl hC hx (by rw [hst]; exact fl) (u1.trans u2) cov
  · unfold noteFrame
    simp only [hfr]
    refine wpAny_bind (wpAny_field he hd h1 ?_)
    rw [if_neg (by decide)]
    refine wpAny_newEntryW hA ff hfr he st nx hd (Array.getElem?_eq_some_iff.mp h1).1 h0 fun h' hL => ?_
    obtain ⟨k1, k2, k3, k4⟩ := hL
    exact h x _ t B h' rfl hC hx ⟨k1, nx, by rw [hst]; exact k2, k3⟩ k4 cov
  · refine wpAny_noteFrame_againW hL tr (wpAny_landsW ⟨st, nx, ff, tr⟩ fun h' fl up => ?_)
    exact h x C t B h' rfl hC hx (by rw [hst]; exact fl) up cov
theorem Inv.landed {X : Cx} {pins : List (Addr × Obj)} {σ : St} {H : Hp} {s : Shared} {h' B : Heap} {x : Addr} {C : Value} {t : Addr} (I : Inv X pins σ H s) (fl : Heap.FlyingW B X.stack x C (.ref t) h') (up : s.heap.UpToSlots h') (hst : X.stack = X.env :: X.outer)
    (cov : ∀ b o, s.heap.get? b = some o -> (H b ≠ none \/ ((∃ o0, X.s₀.heap.get? b = some o0) /\ b ∉ X.fs /\ b ∉ X.ex) \/ ((∃ y, X.env.cells.lookup y = some b) /\ b ∉ frs X.stack) \/ ∃ p ∈ X.pn ++ pins, p.1 = b) -> B.get? b = some o) :
    Inv X pins σ H { s with heap := h' } := by
  obtain ⟨f1, f2, f3, f4⟩ := fl
  obtain ⟨m, hn, hl⟩ := id I.loc
  have cellK : ∀ y c, X.env.cells.lookup y = some c -> ∀ v, s.heap.IsCell c v -> h'.IsCell c v := fun y c e v ⟨o, ho, hd⟩ => by
    by_cases hc : c ∈ frs X.stack
    · obtain ⟨sl, q⟩ := up c o ho fun vs z => by rw [hd] at z; cases z
      exact ⟨_, q, hd⟩
    · exact ⟨o, f1 c o (cov c o ho (.inr (.inr (.inl ⟨⟨y, e⟩, hc⟩)))), hd⟩
  have frames : ∀ b ∈ X.fs, ∀ o, s.heap.get? b = some o -> ∃ sl, h'.get? b = some { o with slots := sl } := fun b hb o ho => by
    obtain ⟨_, o', ho', hd⟩ := I.funs.mem hb
    rw [ho] at ho'; cases ho'
    exact up b o ho hd
  have kept : ∀ b o, s.heap.get? b = some o -> (∃ o0, X.s₀.heap.get? b = some o0) -> b ∉ X.fs -> b ∉ X.ex -> h'.get? b = some o := fun b o ho h0 hb hx => f1 b o (cov b o ho (.inr (.inl ⟨h0, hb, hx⟩)))
  refine ⟨I.ok, I.os, I.bare, ⟨fun b o q n hb hx => kept b o (I.base.keep b o q n hb hx) ⟨o, q⟩ hb hx, fun b o q n hb hx => ?_, I.base.free, fun b o q hx => ?_, I.base.tups, I.base.frzs, I.base.tbls⟩, ⟨m, up.ns hn, fun i y v e1 e2 e3 => ?_⟩, fun y c e => ?_, I.free, I.freeC, fun p hp => ?_, fun b u hb => ?_, I.len⟩
  · obtain ⟨sl, q1⟩ := I.base.slot b o q n hb hx
    obtain ⟨sl2, q2⟩ := frames b hb _ q1
    exact ⟨sl2, q2⟩
  · obtain ⟨o', q1⟩ := I.base.there b o q hx
    by_cases hb : b ∈ X.fs
    · obtain ⟨sl2, q2⟩ := frames b hb _ q1; exact ⟨_, q2⟩
    · exact ⟨o', kept b o' q1 ⟨o, q⟩ hb hx⟩
  · obtain ⟨u, r, lk⟩ := hl i y v e1 e2 e3
    refine ⟨u, r, ?_⟩
    rcases lk with lk | ⟨k, c, e, z⟩
    · exact .inl lk
    · exact .inr ⟨k, c, e, cellK y c e _ z⟩
  · obtain ⟨v, z⟩ := I.cell y c e
    exact ⟨v, cellK y c e v z⟩
  · obtain ⟨e, n, ne, nf, d⟩ := I.pin p hp
    exact ⟨f1 _ _ (cov _ _ e (.inr (.inr (.inr ⟨p, hp, rfl⟩)))), n, ne, nf, d⟩
  · refine (I.hok b u hb).stay (fun c v hc q => f1 c v (cov c v q (.inl ?_))) (fun _ q => q) fun _ _ q => q
    rcases hc with rfl | hc
    · rw [hb]; simp
    · rw [hc]; simp
abbrev Cx.trying (X : Cx) (pn : List (Addr × Obj)) (E : Value -> Shared -> Prop) : Cx := { X with pn := pn, xe := E }
abbrev Cx.within (X : Cx) (v : Value) : Cx := { X with A := X.A.mark (some v), calm := false, xe := fun _ _ => False }
theorem Cx.Ok.trying {X : Cx} (k : X.Ok) (pn : List (Addr × Obj)) (E : Value -> Shared -> Prop) : (X.trying pn E).Ok := ⟨k.mod, k.kind, k.glob, k.blt, k.above, k.inj, k.has, k.cab, k.hd, k.frames, k.stk, k.exf, k.bs, k.bsz, k.noex, k.exfs, k.funs, k.frf⟩
theorem Cx.Ok.within {X : Cx} (k : X.Ok) (v : Value) : (X.within v).Ok := ⟨k.mod, k.kind, k.glob, k.blt, k.above, k.inj, k.has, k.cab, (fun z => by cases z), k.frames, k.stk, k.exf, k.bs, k.bsz, k.noex, k.exfs, k.funs, k.frf⟩
section
variable {X : Cx} {pins : List (Addr × Obj)} {σ : St} {H : Hp} {s : Shared}
theorem Inv.trying (I : Inv X pins σ H s) (E : Value -> Shared -> Prop) : Inv (X.trying (X.pn ++ pins) E) [] σ H s := ⟨I.ok.trying _ _, I.os, I.bare, I.base, I.loc, I.cell, I.free, I.freeC, fun p hp => I.pin p (by simpa using hp), I.hok, I.len⟩
theorem Inv.tried {E : Value -> Shared -> Prop} {pins' : List (Addr × Obj)} (ok : X.Ok) (I : Inv (X.trying (X.pn ++ pins) E) pins' σ H s) : Inv X pins σ H s := ⟨ok, I.os, I.bare, I.base, I.loc, I.cell, I.free, I.freeC, fun p hp => I.pin p (List.mem_append_left _ hp), I.hok, I.len⟩
theorem Inv.within (I : Inv X pins σ H s) (v : Value) : Inv (X.within v) pins σ H s := ⟨I.ok.within v, I.os, I.bare, I.base, I.loc, I.cell, I.free, I.freeC, I.pin, I.hok, I.len⟩
theorem Inv.out {v : Value} (ok : X.Ok) (I : Inv (X.within v) pins σ H s) : Inv X pins σ H s := ⟨ok, I.os, I.bare, I.base, I.loc, I.cell, I.free, I.freeC, I.pin, I.hok, I.len⟩
theorem Inv.adopt {x : Addr} {ob : HO} (I : Inv X pins σ H s) (hx : H x = none) (h0 : X.s₀.heap.get? x = none) (hL : x ≠ X.env.locals) (hc : ∀ y c, X.env.cells.lookup y = some c -> c ≠ x) (hp : ∀ p ∈ X.pn ++ pins, p.1 ≠ x) (ok : ObjOk X.prog X.w (upd H x ob) s.heap x ob) : Inv X pins σ (upd H x ob) s := by
  have hs : Same H (upd H x ob) := same_new hx ob
  refine ⟨I.ok, I.os, I.bare, ⟨I.base.keep, I.base.slot, fun b o q n hb => ?_, I.base.there, fun b xs q => hs _ _ (I.base.tups b xs q), fun b o u q => hs _ _ (I.base.frzs b o u q), fun b ps q => ?_⟩, I.loc, I.cell, ?_, fun y c e => ?_, fun p h => ?_, fun b u hb => ?_, I.len⟩
  · rw [upd_ne (fun z => by rw [z, h0] at q; cases q)]; exact I.base.free b o q n hb
  · obtain ⟨m, e⟩ := I.base.tbls b ps q; exact ⟨m, hs _ _ e⟩
  · rw [upd_ne (Ne.symm hL)]; exact I.free
  · rw [upd_ne (hc y c e)]; exact I.freeC y c e
  · obtain ⟨a, b, c, d, e⟩ := I.pin p h; exact ⟨a, by rw [upd_ne (hp p h)]; exact b, c, d, e⟩
  · by_cases e : b = x
    · subst e; rw [upd_same] at hb; cases hb; exact ok
    · rw [upd_ne e] at hb
      exact (I.hok b u hb).stay (fun _ _ _ q => q) (fun c q => hs _ _ q) fun c xs q => hs _ _ q
end
theorem excMatches_own {M : Model} {A : Around} {E : Value -> Shared -> Prop} {h : Heap} {g : Array GenState} {d : Drawn} {t : Nat} {os : OsState} {e : Addr} {oe : Obj} {Q : Bool -> Shared -> Prop} {nm qn nm' qn' : Str} {C N D N' : Addr} {bs bm bs' bm' : List Value} {hdct hdct' : Bool} {sn sn' : List Str} {sub sub' : List Value} {ab ab' : Bool} {col col' : Option Bool} {dd dd' : Option Addr} {k0 k1 k2 k3 k5 j0 j1 j2 j3 j5 : Option Value} {newId newId' : String}
    (hC : h.get? C = some (excClassObj nm qn C N bs bm hdct sn sub ab col dd k0 k1 k2 k3 k5 newId)) (hD : h.get? D = some (excClassObj nm' qn' D N' bs' bm' hdct' sn' sub' ab' col' dd' j0 j1 j2 j3 j5 newId')) (he : h.get? e = some oe) (hcls : oe.cls = .ref C) (hbase : bm'.contains (.type "BaseException") = true)
    {b : Bool} (hb : (Value.ref C :: bm).contains (.ref D) = b) (hq : Q b ⟨h, g, d, t, os⟩) : wpAny M A (excMatches (.ref e) (.ref D)) Q E ⟨h, g, d, t, os⟩ := by
  have hcB : (Value.ref D :: bm').contains (.type "BaseException") = true := by rw [List.contains_cons, hbase, Bool.or_true]
  have f := tc_notTuple
  unfold excMatches
  repeat (first | (with_reducible refine wpAny_loadPart_at he ?_; rw [hcls]) | with_reducible refine wpAny_loadPart_at hD ?_ | (with_reducible refine wpAny_isSubtype_exc hD ?_; rw [hcB]) | (with_reducible refine wpAny_isSubtype_exc hC ?_; rw [hb]) | wp_step)
  cases b <;> (wp_walk; exact hq)
end L2
set_option Elab.async false
set_option linter.all false
set_option maxRecDepth 100000
set_option maxHeartbeats 4000000
namespace L2
open PySem PySem.Spec PyProof.Rows
open AutoSeq1 (wpAny_loadPart')
section
variable {X : Cx}
def splitN (c : Nat) : List Nat -> List (List Nat)
  | [] => [[]]
  | d :: r => if d = c then [] :: splitN c r else match splitN c r with
    | [] => [[d]]
    | p :: ps => (d :: p) :: ps
theorem splitN_ne (c : Nat) : ∀ l, splitN c l ≠ []
  | [] => by simp [splitN]
  | d :: r => by
    unfold splitN
    split
    · simp
    · split <;> simp
theorem splitN_join (c : Nat) : ∀ l, joinN [c] (splitN c l) = l
  | [] => rfl
  | d :: r => by
    have ih := splitN_join c r
    have hn := splitN_ne c r
    unfold splitN
    split
    · rename_i h
      subst h
      cases e : splitN d r with
      | nil => exact absurd e hn
      | cons p ps => rw [e] at ih; rw [joinN_tail, ih]; rfl
    · cases e : splitN c r with
      | nil => exact absurd e hn
      | cons p ps =>
        rw [e] at ih
        cases ps with
        | nil => rw [<- ih]; rfl
        | cons p2 ps => rw [joinN_tail] at ih; rw [joinN_tail, <- ih]; rfl
theorem splitN_free (c : Nat) : ∀ l, ∀ w ∈ splitN c l, c ∉ w
  | [] => by simp [splitN]
  | d :: r => by
    have ih := splitN_free c r
    unfold splitN
    split
    · intro w hw
      rcases List.mem_cons.mp hw with rfl | hw
      · simp
      · exact ih w hw
    · rename_i h
      split
      · intro w hw
        simp only [List.mem_singleton] at hw
        subst hw
        simpa using fun z => h z.symm
      · rename_i p ps e
        intro w hw
        rcases List.mem_cons.mp hw with rfl | hw
        · intro z
          rcases List.mem_cons.mp z with z | z
          · exact h z.symm
          · exact ih p (by rw [e]; exact List.mem_cons_self) z
        · exact ih w (by rw [e]; exact List.mem_cons_of_mem _ hw)
theorem splitN_len (c : Nat) : ∀ l, (splitN c l).length <= l.length + 1
  | [] => by simp [splitN]
  | d :: r => by
    have ih := splitN_len c r
    unfold splitN
    split
    · simp; omega
    · split
      · simp
      · rename_i p ps e; rw [e] at ih; simp at ih ⊢; omega
theorem relWs_strs {K : PySem.W.Frag} {μ : List Addr} {H : Hp} : ∀ ls : List (List Nat), RelWs K μ H (ls.map W.str) (ls.map fun l => V.str (tx l))
  | [] => .nilI
  | _ :: r => .consI .str (relWs_strs r)
def mSplit (x : W) (ws : List W) (st : List Cell) : R W := match x, ws with
  | .str l, [.str [c]] => if l.length + 2 <= LIM then .ok (.loc st.length) (st ++ [.lst ((splitN c l).map W.str)]) else .bad
  | _, _ => .bad
theorem m_splitW : MtW X "str.split" mSplit := ⟨fun pins s σ H x vs v us Q I rv rus ⟨μ, st, wx, ws, S, rx, rs, q⟩ => by
  unfold mSplit at q
  split at q
  · rename_i l c
    obtain ⟨y1, rfl, ry⟩ := rs.one
    split at q
    · rename_i hc
      refine m_split.h pins s σ H x _ v us Q I rv rus ⟨c, splitN c l, by rw [rx.strE, splitN_join], by rw [ry.strE], splitN_ne c l, splitN_free c l, by rw [splitN_join]; exact lim_le hc, Nat.le_trans (splitN_len c l) (lim_le (by omega)), fun p H2 hp e => ?_⟩
      subst e
      exact q (μ ++ [p]) _ _ (List.prefix_append _ _) (SqT.same (same_new hp _)) (S.newLst hp (relWs_strs _)) (newLoc S)
    · exact q.elim
  · exact q.elim, fun x ws st => by
  unfold mSplit
  repeat' split
  all_goals trivial⟩
end
end L2
set_option Elab.async false
set_option linter.all false
set_option maxRecDepth 100000
set_option maxHeartbeats 4000000
namespace L2
open PySem PySem.Spec PyProof.Rows
section
variable {X : Cx} {a b c e o tg : Expr} {es : List Expr} {pos p p2 : Pos} {fa fb fe fo : FE} {fs : FA}
def downW (i : Int) (n : Nat) : List W := (List.range n).map fun k : Nat => W.int (i - k)
theorem down_rel (i : Int) (n : Nat) (μ : List Addr) (H : Hp) : RelWs X.K μ H (downW i n) (downV i n) := by
  unfold downW downV
  induction (List.range n) with
  | nil => exact .nilI
  | cons a r ih => exact .consI .int ih
def itDown (fs : FA) : FI := fun ρ st => (fs ρ st).bind fun ws st => match ws with
  | [.int i, .int j, .int k] => if k = -1 /\ (-(2 ^ 60) <= i /\ i < 2 ^ 60 /\ -(2 ^ 60) <= j /\ j < 2 ^ 60) then .ok (downW i (i - j).toNat, none) st else .bad
  | _ => .bad
theorem si_down (hm : X.mg "range" = none) (ha : SA X [a, b, c] fs) (hg : Gl X "range" := by rfl) (hs : starEach [a, b, c] X.env = (false, eval a X.env) :: starEach [b, c] X.env := by rfl) (hpl : (backTo pos (starEach [b, c] X.env)).any (·.1) = false := by rfl) :
    SI X tg (.Call (.Name "range" p) [a, b, c] [] pos) (itDown fs) := ⟨(qi_rangeDown hm ⟨ha.h⟩ hg hs hpl).h.imp fun σ H R h => by
  obtain ⟨μ, ρ, st, l, h⟩ := h
  refine ⟨μ, ρ, st, l, RK.bind h l fun μ1 st1 x v H1 p1 x1 l1 q1 h1 => ?_⟩
  split at h1
  · rename_i i j k
    obtain ⟨y, ys, rfl, ry, r1⟩ := q1.consE
    obtain ⟨z, zs, rfl, rz, r2⟩ := r1.consE
    obtain ⟨w, rfl, rw'⟩ := r2.one
    split at h1
    · rename_i cc
      obtain ⟨rfl, cc⟩ := cc
      exact ⟨_, _, by rw [ry.intE, rz.intE, rw'.intE], cc, h1 μ1 _ H1 (List.prefix_refl _) Ext.refl l1.sto (walk_vals (down_rel _ _))⟩
    · exact h1.elim
  · exact h1.elim⟩
def mCount (x : W) (ws : List W) (st : List Cell) : R W := match x, ws with
  | .str l, [.str [c]] => .ok (.int (l.count c : Nat)) st
  | _, _ => .bad
theorem m_countW : MtW X "str.count" mCount := ⟨fun pins s σ H x vs v us Q I rv rus ⟨μ, st, wx, ws, S, rx, rs, q⟩ => by
  unfold mCount at q
  split at q
  · rename_i l c
    obtain ⟨y1, rfl, ry⟩ := rs.one
    exact m_count.h pins s σ H x _ v us Q I rv rus ⟨l, c, rx.strE, by rw [ry.strE], q μ _ H (List.prefix_refl _) Ext.refl S .int⟩
  · exact q.elim, fun x ws st => by
  unfold mCount
  repeat' split
  all_goals trivial⟩
end
end L2
set_option Elab.async false
set_option linter.all false
set_option maxRecDepth 100000
set_option maxHeartbeats 4000000
namespace L2
open PySem PySem.Spec PyProof.Rows
def behind (i : Nat) : RS -> RS
  | .nx ρ st => .nx (ρ.set i none) st
  | .bk ρ st => .bk (ρ.set i none) st
  | .ct ρ st => .ct (ρ.set i none) st
  | .rt w st => .rt w st
  | _ => .bad
def xTry (g : FS) (cs : List Str) (i : Nat) (gh : FS) : FS := fun ρ st => match g ρ st with
  | .ex c ρ' st' => if c ∈ cs then behind i (gh (ρ'.set i (some (.loc st'.length))) (st' ++ [.exc c])) else .bad
  | r => r
structure CatchW (K : PySem.W.Frag) (mg : Str -> Option Value) (T : Str) (cs : List Str) : Prop where
  h : ∀ c ∈ cs, ∃ C Ta, mg c = some (.ref C) /\ mg T = some (.ref Ta) /\ PySem.W.excIn K C bmVE newVE = true /\ PySem.W.excIn K Ta bmVE newVE = true /\ (mroK K C).contains (.ref Ta) = true
theorem envR_unset {K : PySem.W.Frag} {μ : List Addr} {H : Hp} : ∀ {ρ : EnvW} {σ : St} (i : Nat), Paired (fun (o : Option W) (s : Option V) => ∀ w, o = some w -> ∃ v, s = some v /\ RelW K μ H w v) ρ σ ->
    Paired (fun (o : Option W) (s : Option V) => ∀ w, o = some w -> ∃ v, s = some v /\ RelW K μ H w v) (ρ.set i none) (σ.set i none)
  | _, _, _, .nil => .nil
  | _, _, 0, .cons a t => .cons (fun w e => by cases e) t
  | _, _, i + 1, .cons a t => .cons a (envR_unset i t)
theorem StR.pushE {K : PySem.W.Frag} {mg : Str -> Option Value} {μ : List Addr} {st : List Cell} {H : Hp} (S : StR K mg μ st H) {x : Addr} {c : Str} {C : Value} (hx : H x = none) (hc : mg c = some C) : StR K mg (μ ++ [x]) (st ++ [.exc c]) (upd H x (excAt x C)) :=
  S.push (c := .exc c) hx ⟨C, hc, upd_same⟩
theorem ss_try {X : Cx} {body suite : List Stmt} {b₀ : Stmt} {T n : Str} {i : Nat} {g gh : FS} {cs : List Str} {pos hpos np : Pos} (hC : CatchW X.K X.mg T cs) (hN : X.N.Nodup) (hi : X.N[i]? = some n) (hx : Loc X.env.scope n)
    (hb : ∀ pn E, SB (X.trying pn E) body g) (hs : ∀ v, SB (X.within v) (b₀ :: suite) gh) (hex : X.ex = [] := by rfl) (hst : X.stack = X.env :: X.outer := by rfl) (hfr : X.env.frame = some X.env.locals := by rfl) (hk : X.env.kindOf n = some .local := by rfl) (hg : Gl X T := by rfl) (hd : (T == ("__debug__" : Str)) = false := by decide)
    (hf : X.fn n = true \/ X.env.scope.names.lookup n = some .local := by first | exact .inl rfl | exact .inr rfl) :
    SS X (.Try body [.ExceptHandler (some (.Name T np)) (some n) (b₀ :: suite) hpos] [] [] pos) (xTry g cs i gh) := ⟨by
  intro pins s σ H D I h
  obtain ⟨μ, ρ, st, l, h⟩ := h
  refine wpAny_Try_except ?_
  refine wpAny_mono ((hb (X.pn ++ pins) _).h [] s σ H D (I.trying _) ⟨μ, ρ, st, ⟨l.env, l.sto⟩, ?_⟩) (fun f s1 q => ?_) (fun _ _ q => q)
  · unfold xTry at h
    cases e : g ρ st with
    | nx ρ' st' => rw [e] at h; exact fun μ' σ' H' p x r => h μ' σ' H' p x ⟨r.env, r.sto⟩
    | bk ρ' st' => rw [e] at h; exact fun μ' σ' H' p x r => h μ' σ' H' p x ⟨r.env, r.sto⟩
    | ct ρ' st' => rw [e] at h; exact fun μ' σ' H' p x r => h μ' σ' H' p x ⟨r.env, r.sto⟩
    | rt w st' => rw [e] at h; exact h
    | bad => rw [e] at h; exact h
    | ex c ρ' st' =>
      rw [e] at h
      intro pins' μ' σ' H' ev s' pp xx r f
      dsimp only at h
      split at h
      · rename_i hc
        obtain ⟨Ca, Ta, m1, m2, q1, q2, hsub⟩ := hC.h c hc
        have I0 := f.inv
        refine f.lands hst hfr I.ok.frames fun ex C t B h' he hCc hxn fl up cov => ?_
        subst he
        obtain rfl : C = .ref Ca := by have := hCc.symm.trans m1; exact Option.some.inj this
        have I1 := I0.landed fl up hst cov
        have I2 : Inv X pins σ' H' { s' with heap := h' } := Inv.tried I.ok I1
        obtain ⟨oe, vs, _, _, _, heo, ⟨hcls, _⟩, hdat, _⟩ := fl.2.2.2
        have cov2 : ∀ b o, h'.get? b = some o -> (H' b ≠ none \/ ((∃ o0, X.s₀.heap.get? b = some o0) /\ b ∉ X.fs /\ b ∉ X.ex) \/ ((∃ y, X.env.cells.lookup y = some b) /\ b ∉ frs X.stack) \/ ∃ p ∈ X.pn ++ pins, p.1 = b) -> B.get? b = some o := by
          intro b o hbo hr
          have fin : ∀ o1, s'.heap.get? b = some o1 -> (H' b ≠ none \/ ((∃ o0, X.s₀.heap.get? b = some o0) /\ b ∉ X.fs /\ b ∉ X.ex) \/ ((∃ y, X.env.cells.lookup y = some b) /\ b ∉ frs X.stack) \/ ∃ p ∈ (X.pn ++ pins) ++ pins', p.1 = b) -> B.get? b = some o := fun o1 h1 hr => by
            have h2 := cov b o1 h1 hr
            have h3 := fl.1 b o1 h2
            rw [h3] at hbo; cases hbo; exact h2
          rcases hr with hr | ⟨⟨o0, h0⟩, hbf, hbx⟩ | ⟨⟨y, hy⟩, hbf⟩ | ⟨p, hp, rfl⟩
          · cases hu : H' b with
            | none => exact absurd hu hr
            | some u => obtain ⟨ob, hob⟩ := (I0.hok b u hu).ex; exact fin ob hob (.inl hr)
          · obtain ⟨o1, h1⟩ := I0.base.there b o0 h0 hbx
            exact fin o1 h1 (.inr (.inl ⟨⟨o0, h0⟩, hbf, hbx⟩))
          · obtain ⟨v, ov, hov, _⟩ := I0.cell y b hy
            exact fin ov hov (.inr (.inr (.inl ⟨⟨y, hy⟩, hbf⟩)))
          · obtain ⟨p1, _⟩ := I0.pin p (List.mem_append_left _ hp)
            exact fin _ p1 (.inr (.inr (.inr ⟨p, List.mem_append_left _ hp, rfl⟩)))
        have noB : ∀ o, B.get? ex = some o -> False := fun o z => by have := fl.2.1; rw [z] at this; cases this
        obtain ⟨bm, N, nm, qn, bs, hdct, sn, sub, ab, col, dd, k0, k1, k2, k3, k5, mN, g1, g2, g3, g4, g5⟩ := exc_obj I2.kIn q1
        obtain ⟨bm', N', nm', qn', bs', hdct', sn', sub', ab', col', dd', j0, j1, j2, j3, j5, mN', g1', g2', g3', g4', g5'⟩ := exc_obj I2.kIn q2
        refine wpAny_handleBy_cons (codeAny_handlers_test ?_) (by intro z; cases z)
        refine ld_glob (X := X.within (.ref ex)) (I2.within _) hg m2 ?_ hd
        refine excMatches_own g1 g1' heo hcls (g4'.hasType F.excBase_ValueError.hasBase) (b := true) (by rw [<- g5]; exact hsub) ?_
        refine codeAny_handlers_suite_as ?_
        refine lands_againW fl fun h2 fl2 up2 => ?_
        have I3 : Inv X pins σ' H' { s' with heap := h2 } := I2.landed fl2 up2 hst cov2
        obtain ⟨oe2, vs2, _, _, _, heo2, ⟨hcls2, _⟩, hdat2, _⟩ := fl2.2.2.2
        have I4 : Inv X pins σ' (upd H' ex (excAt ex (.ref Ca))) { s' with heap := h2 } := by
          refine I3.adopt hxn ?_ ?_ ?_ ?_ ?_
          · cases h0 : X.s₀.heap.get? ex with
            | none => rfl
            | some o0 =>
              exfalso
              by_cases hfs : ex ∈ X.fs
              · obtain ⟨_, o', ho', hd'⟩ := I3.funs.mem hfs
                have ho' : h2.get? ex = some o' := ho'
                rw [heo2] at ho'; cases ho'
                exact hd' _ hdat2
              · exact noB _ (cov2 ex oe heo (.inr (.inl ⟨⟨o0, h0⟩, hfs, by rw [hex]; simp⟩)))
          · rintro rfl
            obtain ⟨m, ⟨o, es, ep, a1, a2, _⟩, _⟩ := I3.loc
            have a1 : h2.get? _ = some o := a1
            rw [heo2] at a1; cases a1
            rw [hdat2] at a2; cases a2
          · rintro y c' hy rfl
            obtain ⟨v, o, a1, a2⟩ := I3.cell y _ hy
            have a1 : h2.get? _ = some o := a1
            rw [heo2] at a1; cases a1
            rw [hdat2] at a2; cases a2
          · rintro p hp rfl
            exact noB _ (cov2 p.1 oe heo (.inr (.inr (.inr ⟨p, hp, rfl⟩))))
          · refine ⟨⟨oe2, vs2, heo2, hcls2, hdat2⟩, ⟨oe2, heo2⟩, ?_⟩
            rintro ha hb' ⟨o, vs, z1, z2, z3⟩ keep
            exact ⟨o, vs, keep o z1, z2, z3⟩
        have hxt : Ext X.K H' (upd H' ex (excAt ex (.ref Ca))) := SqT.same (same_new hxn _)
        refine store_ok (X := X.within (.ref ex)) (I4.within _) hN hi hx (v := .ref ex) rfl (fun s5 I5 => ?_) hf
        have S4 : StR X.K X.mg (μ' ++ [ex]) (st' ++ [.exc c]) (upd H' ex (excAt ex (.ref Ca))) := StR.pushE r.sto hxn m1
        have L4 : Rl (X.within (.ref ex)) (μ' ++ [ex]) (ρ'.set i (some (.loc st'.length))) (st' ++ [.exc c]) (σ'.set i (some (.ref ex))) (upd H' ex (excAt ex (.ref Ca))) :=
          ⟨envR_set (newLoc r.sto) i (envR_mono (List.prefix_append _ _) hxt r.env), S4⟩
        have pm : μ <+: μ' ++ [ex] := pp.trans (List.prefix_append _ _)
        have xm : Ext X.K H (upd H' ex (excAt ex (.ref Ca))) := xx.trans hxt
        have hp : (X.env.scope.kind == .class || (X.env.scope.kind == .module && X.env.locals != X.env.globals)) = false := by rw [I.ok.kind]; rfl
        refine wpAny_mono ((hs (.ref ex)).h pins s5 _ _ { nx := fun σ H => D.nx (σ.set i none) H, rt := D.rt, bk := fun σ H => D.bk (σ.set i none) H, ct := fun σ H => D.ct (σ.set i none) H } I5 ⟨μ' ++ [ex], _, _, L4, ?_⟩) (fun f6 s6 q => ?_) (fun _ _ z => z.elim)
        · cases e2 : gh (ρ'.set i (some (.loc st'.length))) (st' ++ [.exc c]) with
          | nx ρ2 st2 => rw [e2] at h; exact fun μ3 σ3 H3 p3 x3 r3 => h μ3 (σ3.set i none) H3 (pm.trans p3) (xm.trans x3) ⟨envR_unset i r3.env, r3.sto⟩
          | bk ρ2 st2 => rw [e2] at h; exact fun μ3 σ3 H3 p3 x3 r3 => h μ3 (σ3.set i none) H3 (pm.trans p3) (xm.trans x3) ⟨envR_unset i r3.env, r3.sto⟩
          | ct ρ2 st2 => rw [e2] at h; exact fun μ3 σ3 H3 p3 x3 r3 => h μ3 (σ3.set i none) H3 (pm.trans p3) (xm.trans x3) ⟨envR_unset i r3.env, r3.sto⟩
          | rt w st2 => rw [e2] at h; exact fun μ3 v H3 p3 x3 S3 r3 => h μ3 v H3 (pm.trans p3) (xm.trans x3) S3 r3
          | ex c2 ρ2 st2 => rw [e2] at h; exact h.elim
          | bad => rw [e2] at h; exact h.elim
        · cases f6 with
          | next =>
            obtain ⟨σ6, H6, I6, q⟩ := q
            have I6' : Inv X pins σ6 H6 s6 := Inv.out I.ok I6
            obtain ⟨m, hn, hl⟩ := id I6'.loc
            exact wpAny_nameGoes_keeps hk hn hp fun h7 v hn7 hs7 => ⟨_, H6, I6'.unbound hN hi hn hn7 hs7, q⟩
          | brk =>
            obtain ⟨σ6, H6, I6, q⟩ := q
            have I6' : Inv X pins σ6 H6 s6 := Inv.out I.ok I6
            obtain ⟨m, hn, hl⟩ := id I6'.loc
            exact wpAny_nameGoes_keeps hk hn hp fun h7 v hn7 hs7 => ⟨_, H6, I6'.unbound hN hi hn hn7 hs7, q⟩
          | cont =>
            obtain ⟨σ6, H6, I6, q⟩ := q
            have I6' : Inv X pins σ6 H6 s6 := Inv.out I.ok I6
            obtain ⟨m, hn, hl⟩ := id I6'.loc
            exact wpAny_nameGoes_keeps hk hn hp fun h7 v hn7 hs7 => ⟨_, H6, I6'.unbound hN hi hn hn7 hs7, q⟩
          | ret u =>
            obtain ⟨v6, σ6, H6, I6, rr, q⟩ := q
            have I6' : Inv X pins σ6 H6 s6 := Inv.out I.ok I6
            obtain ⟨m, hn, hl⟩ := id I6'.loc
            exact wpAny_nameGoes_keeps hk hn hp fun h7 v hn7 hs7 => ⟨v6, _, H6, I6'.unbound hN hi hn hn7 hs7, rr, q⟩
      · exact h.elim
  · cases f with
    | next =>
      obtain ⟨σ', H', I', q⟩ := q
      exact wpAny_execs_nil ⟨σ', H', Inv.tried I.ok I', q⟩
    | brk => obtain ⟨σ', H', I', q⟩ := q; exact ⟨σ', H', Inv.tried I.ok I', q⟩
    | cont => obtain ⟨σ', H', I', q⟩ := q; exact ⟨σ', H', Inv.tried I.ok I', q⟩
    | ret u => obtain ⟨v, σ', H', I', rr, q⟩ := q; exact ⟨v, σ', H', Inv.tried I.ok I', rr, q⟩⟩
end L2
set_option Elab.async false
set_option linter.all false
set_option maxRecDepth 100000
set_option maxHeartbeats 4000000
namespace L2
open PySem PySem.Spec PyProof.Rows
section
variable {prog : Program} {w : World} {A : Around} {E : Value -> Shared -> Prop} {h : Heap} {g : Array GenState} {d : Drawn} {t : Nat} {os : OsState} {a : Addr} {o : Obj}
  {nm q : Str} {C N : Addr} {bs bm : List Value} {hdct : Bool} {sn : List Str} {sub : List Value} {ab : Bool} {col : Option Bool} {dd : Option Addr} {k0 k1 k2 k3 k5 : Option Value} {newId : String} {K : PySem.W.Frag}
theorem xc_get {R : Result -> Shared -> Prop} (hC : h.get? C = some (excClassObj nm q C N bs bm hdct sn sub ab col dd k0 k1 k2 k3 k5 newId)) (T : OwnTail h bmVE bm) (hx : h.get? a = some o) (hc : o.cls = .ref C) (hq : R (.ok (.ret (.ref C))) ⟨h, g, d, t, os⟩) :
    codeAny (model prog w) A (.call (.builtin "getset_descriptor.__get__") ⟨[.builtin "object.__class__", .ref a, .ref C], []⟩) R ⟨h, g, d, t, os⟩ := by
  have hT5 : (⟨h, g, d, t, os⟩ : Shared).TypeIs (.builtin "object.__class__") "getset_descriptor" := F.typeOf_object_class
  have hcB : (Value.ref C :: bm).contains (.type (".".intercalate ("object.__class__".cutAt '.').dropLast)) = true := by
    rw [F.owner_object_class, List.contains_cons, T.hasType (X := "object") (b := true) (by decide)]
    rfl
  refine codeAny_call_builtin F.slot_gs_get.plain F.entry_gs_get (F.slot_gs_get.check _ _ _ _ _ _ _ _ hT5 (F.args_gs_get _ _ _) ?_)
  repeat (any_goals (first | assumption | (with_reducible refine wpAny_loadPart_at hx ?_; rw [hc]) | (with_reducible refine wpAny_isSubtype_exc hC ?_; rw [hcB]) | wp_step))
  refine ⟨Code.quiet_builtin _ (by decide +kernel), codeAny_builtin F.entry_object_class ?_⟩
  repeat (any_goals (first | assumption | (with_reducible refine wpAny_loadPart_at hx ?_; rw [hc]) | wp_step))
theorem xc_look {Q : Option Value -> Shared -> Prop} {x : Str} {r : Option Value} (X : K.In h) (f : PySem.W.findIn K (.ref C) x = some r) (hq : Q r ⟨h, g, d, t, os⟩) : wpAny (model prog w) A (typeLookup (.ref C) x) Q E ⟨h, g, d, t, os⟩ :=
  PySem.W.looks_findIn X f A Q E _ (fun _ _ z => z) hq
theorem xc_entry {tk : Tok} {Q : Fin -> Shared -> Prop} (X : K.In h) (f2 : PySem.W.findIn K (.ref C) "__class__" = some (some (.builtin "object.__class__"))) (hC : h.get? C = some (excClassObj nm q C N bs bm hdct sn sub ab col dd k0 k1 k2 k3 k5 newId)) (T : OwnTail h bmVE bm) (hx : h.get? a = some o) (hc : o.cls = .ref C)
    (hq : Q (.done (.ret (.ref C))) ⟨h, g, d, t, os⟩) : wpAny (model prog w) A (Builtin.«object.__getattribute__» ⟨[.ref a, .str "__class__" tk], []⟩) Q E ⟨h, g, d, t, os⟩ := by
  have hT5 : (⟨h, g, d, t, os⟩ : Shared).TypeIs (.builtin "object.__class__") "getset_descriptor" := F.typeOf_object_class
  have f5 := F.typeOf_object_class
  have f6 := F.slot_gs_get.lookup
  have f7 := F.slot_gs_set.lookup
  repeat (any_goals (first | assumption | (with_reducible refine wpAny_loadPart_at hx ?_; rw [hc]) | with_reducible refine xc_look X f2 ?_ | wp_step))
  refine xc_get hC T hx hc ?_
  repeat (any_goals (first | assumption | wp_step))
theorem xc_check {M : Model} {v : Value} {Q : Unit -> Shared -> Prop} (hC : h.get? C = some (excClassObj nm q C N bs bm hdct sn sub ab col dd k0 k1 k2 k3 k5 newId)) (T : OwnTail h bmVE bm) (hx : h.get? a = some o) (hc : o.cls = .ref C) (hq : Q () ⟨h, g, d, t, os⟩) :
    wpAny M A (checkBuiltinCall "BaseException.__getattribute__" ⟨[.ref a, v], []⟩) Q E ⟨h, g, d, t, os⟩ := by
  have hcB : (Value.ref C :: bm).contains (.type "BaseException") = true := by
    rw [List.contains_cons, T.hasType (X := "BaseException") (b := true) (by decide)]
    rfl
  have ha := F.args_bexc_ga (.ref a) v
  have kd : builtinKind "BaseException.__getattribute__" = some .slot := by decide +kernel
  have sp : splitId "BaseException.__getattribute__" = some ("BaseException", "__getattribute__") := by decide +kernel
  simp only [checkBuiltinCall, kd, sp]
  refine wpAny_bind ?_
  unfold isInstance
  repeat (first | (with_reducible refine wpAny_loadPart_at hx ?_; rw [hc]) | (with_reducible refine wpAny_isSubtype_exc hC ?_; rw [hcB]) | wp_step)
  exact hq
theorem xc_call {tk : Tok} {R : Result -> Shared -> Prop} (X : K.In h) (f2 : PySem.W.findIn K (.ref C) "__class__" = some (some (.builtin "object.__class__"))) (hC : h.get? C = some (excClassObj nm q C N bs bm hdct sn sub ab col dd k0 k1 k2 k3 k5 newId)) (T : OwnTail h bmVE bm) (hx : h.get? a = some o) (hc : o.cls = .ref C)
    (hq : R (.ok (.ret (.ref C))) ⟨h, g, d, t, os⟩) : codeAny (model prog w) A (.call (.builtin "BaseException.__getattribute__") ⟨[.ref a, .str "__class__" tk], []⟩) R ⟨h, g, d, t, os⟩ :=
  codeAny_call_builtin F.attrBase_ValueError.ga.plain F.entry_bexc_ga (xc_check hC T hx hc (xc_entry X f2 hC T hx hc hq))
theorem xc_by {tk : Tok} {Q : Value -> Shared -> Prop} (X : K.In h) (f1 : PySem.W.findIn K (.ref C) "__getattribute__" = some (some (.builtin "BaseException.__getattribute__"))) (f3 : PySem.W.findIn K (.ref C) "__getattr__" = some none) (f2 : PySem.W.findIn K (.ref C) "__class__" = some (some (.builtin "object.__class__")))
    (hC : h.get? C = some (excClassObj nm q C N bs bm hdct sn sub ab col dd k0 k1 k2 k3 k5 newId)) (T : OwnTail h bmVE bm) (hx : h.get? a = some o) (hc : o.cls = .ref C) (hq : Q (.ref C) ⟨h, g, d, t, os⟩) :
    wpAny (model prog w) A (getAttrBy (.ref a) (.str "__class__" tk) false) Q E ⟨h, g, d, t, os⟩ := by
  have f4 := F.attrBase_ValueError.ga.bind (.ref a)
  have hx2 : (Value.builtin "BaseException.__getattribute__" == Value.builtin "object.__getattribute__") = false := by decide +kernel
  have hx1 : (onTheHeap (Value.ref C) && Value.builtin "BaseException.__getattribute__" == Value.builtin "object.__getattribute__") = false := by rw [hx2]; rfl
  repeat (any_goals (first | assumption | (with_reducible refine wpAny_loadPart_at hx ?_; rw [hc]) | with_reducible refine xc_look X f1 ?_ | with_reducible refine xc_look X f3 ?_ | wp_step))
  refine xc_call X f2 hC T hx hc ?_
  repeat (any_goals (first | assumption | wp_step))
theorem xc_attr {Q : Option Value -> Shared -> Prop} (X : K.In h) (f1 : PySem.W.findIn K (.ref C) "__getattribute__" = some (some (.builtin "BaseException.__getattribute__"))) (f3 : PySem.W.findIn K (.ref C) "__getattr__" = some none) (f2 : PySem.W.findIn K (.ref C) "__class__" = some (some (.builtin "object.__class__")))
    (hC : h.get? C = some (excClassObj nm q C N bs bm hdct sn sub ab col dd k0 k1 k2 k3 k5 newId)) (T : OwnTail h bmVE bm) (hx : h.get? a = some o) (hc : o.cls = .ref C) (hq : Q (some (.ref C)) ⟨h, g, d, t + 1, os⟩) :
    wpAny (model prog w) A (getAttr? (.ref a) "__class__") Q E ⟨h, g, d, t, os⟩ := by
  unfold getAttr? getAttrBy?
  repeat (any_goals (first | assumption | with_reducible apply xc_by X f1 f3 f2 hC T hx hc | wp_step))
end
end L2
set_option Elab.async false
set_option linter.all false
set_option maxRecDepth 100000
set_option maxHeartbeats 4000000
namespace L2
open PySem PySem.Spec PyProof.Rows
structure ExcNm (K : PySem.W.Frag) (C : Addr) : Prop where
  ga : PySem.W.findIn K (.ref C) "__getattribute__" = some (some (.builtin "BaseException.__getattribute__"))
  gt : PySem.W.findIn K (.ref C) "__getattr__" = some none
  cl : PySem.W.findIn K (.ref C) "__class__" = some (some (.builtin "object.__class__"))
theorem kitx_exc {K : PySem.W.Frag} {x C : Addr} (q : PySem.W.excIn K C bmVE newVE = true) (n : ExcNm K C) : PySem.W.KitX K (.ref x) (.ref C) (fun h => ∃ o, h.get? x = some o /\ o.cls = .ref C) where
  ty := fun M h X ⟨o, h1, h2⟩ A Q E s k z => by
    unfold typeOf
    refine wpAny_bind (wpAny_loadPart (k _ _ h1) ?_)
    rw [h2]
    exact wpAny_pure z
  it := fun M h X _ A Q E s k z => by
    obtain ⟨bm, N, nm, qn, bs, hdct, sn, sub, ab, col, dd, k0, k1, k2, k3, k5, mN, g1, _⟩ := exc_obj X q
    unfold isType loadHead
    exact wpAny_bind (wpAny_loadPart (k _ _ g1) (wpAny_pure z))
  ne := fun h tp dd its m sl X htp => by
    obtain ⟨bm, N, nm, qn, bs, hdct, sn, sub, ab, col, dd', k0, k1, k2, k3, k5, mN, g1, _⟩ := exc_obj X q
    refine Bool.eq_false_iff.mpr fun z => ?_
    have e : C = tp := Value.ref.inj (beq_iff_eq.mp z)
    subst e
    rw [g1] at htp
    have z2 : (Value.type "type") = .type "tuple" := congrArg Obj.cls (Option.some.inj htp)
    exact absurd z2 (by decide)
  ca := fun {prog w A E Q s} X p z => by
    obtain ⟨o, h1, h2⟩ := p
    obtain ⟨bm, N, nm, qn, bs, hdct, sn, sub, ab, col, dd, k0, k1, k2, k3, k5, mN, g1, g2, g3, g4, g5⟩ := exc_obj X q
    obtain ⟨h, g, d, t, os⟩ := s
    exact xc_attr X n.ga n.gt n.cl g1 g4 h1 h2 z
structure IsiW (K : PySem.W.Frag) (mg : Str -> Option Value) (T : Value) (f : Str -> Option Bool) : Prop where
  h : ∀ c b, f c = some b -> ∃ C, mg c = some (.ref C) /\ PySem.W.excIn K C bmVE newVE = true /\ ExcNm K C /\ PySem.W.kitOne K (.ref C) T = some b
theorem call_isiE {X : Cx} {T : V} {Tv : Value} (hT : ∀ u, RelV T u -> u = Tv) {f : Str -> Option Bool} (hI : IsiW X.K X.mg Tv f) :
    CallR X (.builtin "isinstance") (fun xs H Q => ∃ x μ st n c b, xs = [x, T] /\ StR X.K X.mg μ st H /\ RelW X.K μ H (.loc n) x /\ st[n]? = some (.exc c) /\ f c = some b /\ Q (.bl b) H) := by
  intro pins s σ H xs us Q I r h
  obtain ⟨x, μ, st, n, c, b, rfl, S, rx, hn, hf, q⟩ := h
  obtain ⟨u, u2, rfl, r1, r2⟩ := Vals.two r
  obtain rfl := hT u2 r2
  obtain ⟨C, hm, hq, hnm, hk⟩ := hI.h c b hf
  obtain ⟨a, ha, C', hm', hH⟩ := S.get hn
  obtain ⟨a', ha', rfl⟩ := rx.locE
  rw [ha] at ha'; cases ha'
  rw [hm] at hm'; cases hm'
  cases (show u = Value.ref a from r1)
  obtain ⟨⟨o, vs, h1, h2, h3⟩, _⟩ := I.hok a _ hH
  exact PySem.W.kia_one (kitx_exc hq hnm) I.kIn ⟨o, h1, h2⟩ hk (fun z => nomatch z) fun tk => ⟨.bl _, H, I.tok tk, rfl, q⟩
def eIsE (f : Str -> Option Bool) (fa : FE) : FE := fun ρ st => (fa ρ st).bind fun x st => match x with
  | .loc n => (match st[n]? with
    | some (.exc c) => (match f c with
      | some b => .ok (.bl b) st
      | none => .bad)
    | _ => .bad)
  | _ => .bad
section
variable {X : Cx} {a : Expr} {pos p p2 : Pos} {fa : FE}
theorem isE_of {T : V} {f : Str -> Option Bool} {t : TE} {e : Expr} (h : PE X e t) (hi : ∀ σ H Q, (tE X fa) σ H (fun x H1 => ∃ x' μ st n c b, ([x, T] : List V) = [x', T] /\ StR X.K X.mg μ st H1 /\ RelW X.K μ H1 (.loc n) x' /\ st[n]? = some (.exc c) /\ f c = some b /\ Q (.bl b) H1) -> t σ H Q) : SE X e (eIsE f fa) := ⟨h.imp fun σ H Q z => by
  refine hi σ H Q ?_
  obtain ⟨μ, ρ, st, l, z⟩ := z
  refine ⟨μ, ρ, st, l, RK.bind z l fun μ1 st1 x v H1 p1 x1 l1 q1 h1 => ?_⟩
  split at h1
  · rename_i n
    split at h1
    · rename_i c e1
      split at h1
      · rename_i b e2
        exact ⟨v, μ1, st1, n, c, b, rfl, l1.sto, q1, e1, e2, h1 μ1 _ H1 (List.prefix_refl _) Ext.refl l1.sto .bl⟩
      · exact h1.elim
    · exact h1.elim
  · exact h1.elim⟩
theorem s_isC {xT : Str} {Ta : Addr} {f : Str -> Option Bool} (hm : X.mg "isinstance" = none) (hT : X.mg xT = some (.ref Ta)) (hI : IsiW X.K X.mg (.ref Ta) f) (ha : SE X a fa) (hg : Gl X "isinstance" := by rfl) (hgT : Gl X xT := by rfl) (hd : (xT == ("__debug__" : Str)) = false := by decide)
    (he : starEach [a, .Name xT p2] X.env = (false, eval a X.env) :: starEach [.Name xT p2] X.env := by rfl) (he2 : starEach [.Name xT p2] X.env = (false, eval (.Name xT p2) X.env) :: starEach [] X.env := by rfl) (hpl : (backTo pos (starEach [.Name xT p2] X.env)).any (·.1) = false := by rfl) :
    SE X (.Call (.Name "isinstance" p) [a, .Name xT p2] [] pos) (eIsE f fa) :=
  isE_of (T := .ref Ta) (pe_callB (call_isiE (T := .ref Ta) (Tv := .ref Ta) (fun _ r => r) hI) hg hm boot_isinstance (pa_cons ha.h (pa_cons (pe_glob hgT hT (v := .ref Ta) rfl hd) pa_nil he2) he) (by decide) (by decide) he hpl) fun _ _ _ z => z
theorem s_isB {xT : Str} {T : String} {f : Str -> Option Bool} (hm : X.mg "isinstance" = none) (hT : X.mg xT = none) (hv : bootBuiltins xT = some (.type T)) (hI : IsiW X.K X.mg (.type T) f) (ha : SE X a fa) (hg : Gl X "isinstance" := by rfl) (hgT : Gl X xT := by rfl) (hn : xT ≠ "__name__" := by decide) (hd : (xT == ("__debug__" : Str)) = false := by decide)
    (he : starEach [a, .Name xT p2] X.env = (false, eval a X.env) :: starEach [.Name xT p2] X.env := by rfl) (he2 : starEach [.Name xT p2] X.env = (false, eval (.Name xT p2) X.env) :: starEach [] X.env := by rfl) (hpl : (backTo pos (starEach [.Name xT p2] X.env)).any (·.1) = false := by rfl) :
    SE X (.Call (.Name "isinstance" p) [a, .Name xT p2] [] pos) (eIsE f fa) :=
  isE_of (T := .ty T) (pe_callB (call_isiE (T := .ty T) (Tv := .type T) (fun _ r => r) hI) hg hm boot_isinstance (pa_cons ha.h (pa_cons (pe_bltn hgT hT hv (v := .ty T) rfl hn hd) pa_nil he2) he) (by decide) (by decide) he hpl) fun _ _ _ z => z
end
end L2
set_option Elab.async false
set_option linter.all false
set_option maxRecDepth 100000
set_option maxHeartbeats 4000000
namespace L2
open PySem PySem.Spec PyProof.Rows
section
variable {X : Cx} {a : Expr} {pos p p2 : Pos} {fa : FE} {es : List Expr} {k : Nat}
end
end L2
set_option Elab.async false
set_option linter.all false
set_option maxRecDepth 100000
set_option maxHeartbeats 4000000
namespace L2
open PySem PySem.Spec PyProof.Rows
section
variable {X : Cx}
end
end L2
set_option Elab.async false
set_option linter.all false
set_option maxRecDepth 100000
set_option maxHeartbeats 4000000
namespace L2
open PySem PySem.Spec PyProof.Rows
section
variable {X : Cx}
theorem foldl_repN {α : Type} (l : List α) : ∀ (k : Nat) (acc : List α), List.foldl (fun x1 x2 => x1 ++ x2) acc.toArray (List.replicate k l.toArray) = (acc ++ (List.replicate k l).flatten).toArray
  | 0, acc => by simp
  | k + 1, acc => by
    have e : acc.toArray ++ l.toArray = (acc ++ l).toArray := by simp
    rw [List.replicate_succ, List.foldl_cons, e, foldl_repN l k (acc ++ l), List.replicate_succ, List.flatten_cons, List.append_assoc]
theorem tx_mul (l : List Nat) (n : Int) : Txt.mul (tx l) n = tx (List.replicate n.toNat l).flatten := by
  unfold Txt.mul
  by_cases h : n < 1
  · rw [if_pos h, show n.toNat = 0 by omega]; rfl
  · rw [if_neg h]
    split
    · rename_i hc
      rw [Bool.or_eq_true, beq_iff_eq, beq_iff_eq, tx_len] at hc
      rcases hc with rfl | hc
      · simp
      · have : l = [] := List.length_eq_zero_iff.mp hc
        subst this
        simp
    · have := foldl_repN l n.toNat []
      rw [List.nil_append] at this
      show Str.mk _ = Str.mk _
      congr 1
theorem op_mulS : OpR X (binaryOp .Mult) (fun x y H Q => ∃ (l : List Nat) (k : Int), x = .str (tx l) /\ y = .int k /\ -(2 ^ 62) <= k /\ k < 2 ^ 62 /\ l.length * k.toNat <= 1000000 /\ Q (.str (tx (List.replicate k.toNat l).flatten)) H) := by
  intro pins s σ H x y v u Q I rx ry h
  obtain ⟨l, k, rfl, rfl, h1, h2, h3, q⟩ := h
  obtain ⟨t, rfl⟩ := rx
  obtain ⟨t', rfl⟩ := ry
  refine SB.mul ⟨?_, ?_, ?_⟩ fun t2 tk => ⟨.str _, H, I.tok _, ⟨t2, ?_⟩, q⟩
  · simp; omega
  · intro hk hx
    rw [tx_len]
    intro hg
    have hk1 : 1 <= k := by omega
    have : k * ((2 ^ 63 - 1) / k) <= 2 ^ 63 - 1 := Int.mul_ediv_self_le (by omega)
    have h4 : (2 ^ 63 - 1) < k * (l.length : Int) := by
      have := Int.lt_mul_of_ediv_lt (a := 2 ^ 63 - 1) (b := (l.length : Int)) (c := k) (by omega) hg
      rw [Int.mul_comm]; exact this
    have h5 : k * (l.length : Int) = ((l.length * k.toNat : Nat) : Int) := by
      rw [Int.natCast_mul, Int.toNat_of_nonneg (by omega), Int.mul_comm]
    rw [h5] at h4
    omega
  · intro hk hx
    rw [tx_len]
    unfold Builtin.Str.tooLong
    rw [decide_eq_false]
    have : (1000000 : Nat) <= sizeLine := by decide
    omega
  · rw [tx_mul]
def wMulA : W -> W -> List Cell -> R W
  | .int i, .int j, st => if cMul i j then .ok (.int (i * j)) st else .bad
  | .str l, .int k, st => if -(2 ^ 62) <= k /\ k < 2 ^ 62 /\ l.length * k.toNat <= LIM then .ok (.str (List.replicate k.toNat l).flatten) st else .bad
  | _, _, _ => .bad
theorem w_mulA : OpW X (binaryOp .Mult) wMulA := ⟨fun pins s σ H x y v u Q I rv ru ⟨μ, st, wx, wy, S, rx, ry, q⟩ => by
  cases wx with
  | int i =>
    cases wy with
    | int j =>
      have q' : OkW X μ H Q (wMul (.int i) (.int j) st) := q
      exact w_mul.h pins s σ H x y v u Q I rv ru ⟨μ, st, .int i, .int j, S, rx, ry, q'⟩
    | _ => exact q.elim
  | str l =>
    cases wy with
    | int k =>
      simp only [wMulA] at q
      split at q
      · rename_i cc
        exact op_mulS pins s σ H x y v u Q I rv ru ⟨l, k, rx.strE, ry.intE, cc.1, cc.2.1, cc.2.2, okW_str S q⟩
      · exact q.elim
    | _ => exact q.elim
  | _ => cases wy <;> exact q.elim, fun x y st => by
  unfold wMulA
  repeat' split
  all_goals trivial⟩
end
end L2
set_option Elab.async false
set_option linter.all false
set_option maxRecDepth 100000
set_option maxHeartbeats 4000000
namespace L2
open PySem PySem.Spec PyProof.Rows
structure RoomH (k : Nat) (A : Around) : Prop where
  dp : A.depth + 2 * k + 5 < recursionLimit
  un : A.units + 16 * k + 200 < cLine
theorem Room.h {k : Nat} {A : Around} (r : Room k A) (v : Option Value) : RoomH k (A.mark v) := ⟨r.dp, r.un⟩
theorem RoomH.mono {j k : Nat} {A : Around} (r : RoomH k A) (h : j <= k) : RoomH j A := ⟨by have := r.dp; omega, by have := r.un; omega⟩
theorem RoomH.units {k : Nat} {A : Around} (r : RoomH k A) : A.units + 64 < cLine := by have := r.un; omega
structure FnOkH (P : Program) (w : World) (K : PySem.W.Frag) (mg : Str -> Option Value) (base : Heap) (CX : CXT) (k : Nat) (f : Addr) (fd : FuncData) (ps : List Str) (sp : Sp) : Prop where
  len : ∀ vs H Q E, sp vs H Q E -> vs.length = ps.length
  run : ∀ (A : Around) (outer : List Env) (s : Shared) (H : Hp) (args : Args) (us : List Value) (vs : List V) (Q : VK) (E : XK), RoomH k A -> Env0 P w K mg base A outer s H -> BindsTo s fd args (ps.zip us) -> Vals vs us -> sp vs H Q E ->
    codeAny (model P w) A (.call (.ref f) args) (CR CX outer P w H s Q E) s
theorem FnOkH.mono {P : Program} {w : World} {K : PySem.W.Frag} {mg : Str -> Option Value} {base : Heap} {CX : CXT} {j k : Nat} {f : Addr} {fd : FuncData} {ps : List Str} {sp : Sp} (F : FnOkH P w K mg base CX j f fd ps sp) (h : j <= k) :
    FnOkH P w K mg base CX k f fd ps sp := ⟨F.len, fun A outer s H args us vs Q E hr => F.run A outer s H args us vs Q E (hr.mono h)⟩
abbrev cxH (CX : CXT) (P : Program) (w : World) (K : PySem.W.Frag) (mg : Str -> Option Value) (base : Heap) (N : List Str) (qual : Str) (scope : Scope) (f : Addr) (cd : Value) (A : Around) (outer : List Env) (s : Shared) (H : Hp) (E : XK) : Cx :=
  { cxOf CX P w K mg base N qual scope f cd A outer s H E with calm := false }
theorem inv_startH {CX : CXT} {P : Program} {w : World} {K : PySem.W.Frag} {mg : Str -> Option Value} {base : Heap} {N ps : List Str} {qual : Str} {scope : Scope} {f : Addr} {cd : Value} {A : Around} {outer : List Env} {s s1 : Shared} {H : Hp} {E : XK} {us : List Value} {vs : List V}
    (S : FnScope N ps scope) (e0 : Env0 P w K mg base A outer s H) (hl : vs.length = ps.length) (r : Vals vs us)
    (x : InCallC s s.heap.objs.size (bindL (envOfC qual scope s.heap.objs.size f cd).kindOf (ps.zip us) fun _ => none) (cellsFrom (s.heap.objs.size + 1) scope.names []) (bindC (envOfC qual scope s.heap.objs.size f cd).kindOf (ps.zip us) fun _ => none) s1) :
    Inv (cxH CX P w K mg base N qual scope f cd A outer s H E) [] (start N vs) H s1 := by
  have I : Inv (cxOf CX P w K mg base N qual scope f cd { A with handled := none } outer s H E) [] (start N vs) H s1 :=
    inv_start S rfl ⟨e0.frames, e0.mod, e0.bs, e0.bsz, e0.funs, e0.frf, e0.hok, e0.bare⟩ hl r x
  have k := I.ok
  exact ⟨⟨k.mod, k.kind, k.glob, k.blt, k.above, k.inj, k.has, k.cab, (fun z => by cases z), k.frames, k.stk, k.exf, k.bs, k.bsz, k.noex, k.exfs, k.funs, k.frf⟩, I.os, I.bare, I.base, I.loc, I.cell, I.free, I.freeC, I.pin, I.hok, I.len⟩
theorem fnH {CX : CXT} {P : Program} {w : World} {K : PySem.W.Frag} {mg : Str -> Option Value} {base : Heap} {k : Nat} {f : Addr} {name qual : Str} {params : Arguments} {body : List Stmt} {scope : Scope} {dV kV doc pm cdv ct oc : Value} {an od : Option Addr}
    {osl : Array (Option Value)} {N ps : List Str} {sp : Sp} (lk : K.lookup f = some ⟨oc, od, .func (PySem.W.fnOf name qual params body scope dV kV doc pm an cdv ct), osl⟩) (hcd : PySem.W.codeIn K cdv qual = true) (S : FnScope N ps scope)
    (len : ∀ vs H Q E, sp vs H Q E -> vs.length = ps.length)
    (hbody : ∀ (A : Around) (outer : List Env) (s : Shared) (H : Hp) (vs : List V) (Q : VK) (E : XK), RoomH k (A.deeper (envOfC qual scope s.heap.objs.size f cdv)) -> sp vs H Q E ->
      ∃ t, PSs (cxH CX P w K mg base N qual scope f cdv A outer s H E) body t /\ t { nx := fun _ H' => Q .non H', rt := Q } (start N vs) H) :
    FnOkH P w K mg base CX (k + 1) f (PySem.W.fnOf name qual params body scope dV kV doc pm an cdv ct) ps sp :=
  ⟨len, fun A outer s H args us vs Q E hr e0 hb r hsp => by
  have KX : K.In s.heap := e0.mod.kin.keeps fun b o e => (e0.bs b o e).1
  have hdep : A.depth < recursionLimit := by have := hr.dp; omega
  have hr' : RoomH k (A.deeper (envOfC qual scope s.heap.objs.size f cdv)) := ⟨by have := hr.dp; show A.depth + 1 + 2 * k + 5 < _; omega, by have := hr.un; show A.units + 3 + 16 * k + 200 < _; omega⟩
  refine codeAny_call_function hdep (KX _ _ lk) rfl S.co S.gen rfl (PySem.W.codeRec_of KX hcd) (hb _ _ _ _ (wpAny_newFunctionEnv_cells S.kind (fun y hy => ?_) fun env he s1 x => ?_))
  · rcases S.par y.1 (List.of_mem_zip (show (y.1, y.2) ∈ _ from hy)).1 with q | q
    · exact .inl q
    · exact .inr ⟨q, PySem.W.cellsFrom_some _ _ _ (.inl q)⟩
  subst he
  obtain ⟨t, ht, hq⟩ := hbody A outer s H vs Q E hr' hsp
  refine ⟨(e0.mod.nolimit.keeps fun b o e => (e0.bs b o e).1).keeps x.toInCall.keep, codeAny_func (wpAny_mono (ht [] s1 _ H _ (inv_startH S e0 (len _ _ _ _ hsp) r x) hq) (fun fl s' hs => ?_) fun e s' hs => hs)⟩
  match fl, hs with
  | .ret u, hs =>
    obtain ⟨v, σ', H', J, rv, q⟩ := hs
    exact ⟨v, H', J.os, J.bare, J.base, J.hok, rv, q⟩
  | .next, hs =>
    obtain ⟨σ', H', J, q⟩ := hs
    exact ⟨.non, H', J.os, J.bare, J.base, J.hok, rfl, q⟩
  | .brk, hs => obtain ⟨_, _, _, q⟩ := hs; exact q.elim
  | .cont, hs => obtain ⟨_, _, _, q⟩ := hs; exact q.elim⟩
structure HasH (P : Program) (w : World) (K : PySem.W.Frag) (mg : Str -> Option Value) (base : Heap) (k : Nat) (x : Str) (n : Nat) (F : List W -> List Cell -> R W) : Prop where
  ex : ∃ (f : Addr) (fd : FuncData) (ps : List Str), mg x = some (.ref f) /\ PySem.W.keepIn K (.ref f) = true /\ ps.length = n /\ Binds K fd ps [] /\ FnOkH P w K mg base (CX1 P w) k f fd ps (spW K mg n F)
theorem HasH.mono {P : Program} {w : World} {K : PySem.W.Frag} {mg : Str -> Option Value} {base : Heap} {j k : Nat} {x : Str} {n : Nat} {F : List W -> List Cell -> R W} (h : HasH P w K mg base j x n F) (hj : j <= k) : HasH P w K mg base k x n F := by
  obtain ⟨f, fd, ps, a, b, c, d, e⟩ := h.ex
  exact ⟨f, fd, ps, a, b, c, d, e.mono hj⟩
section
variable {X : Cx}
theorem run_H {k n : Nat} {f : Addr} {fd : FuncData} {ps : List Str} {F : List W -> List Cell -> R W} {pins : List (Addr × Obj)} {σ : St} {H : Hp} {s : Shared} {Q : VK} {us : List Value} {vs : List V} {μ : List Addr} {st : List Cell} {ws : List W}
    (Fn : FnOkH X.prog X.w X.K X.mg X.base (CX1 X.prog X.w) k f fd ps (spW X.K X.mg n F)) (hn : ps.length = n) (hr : RoomH k X.A) (hb : Binds X.K fd ps []) (I : Inv X pins σ H s) (S : StR X.K X.mg μ st H) (r : RelWs X.K μ H ws vs) (rv : Vals vs us) (hl : ws.length = n)
    (h : RK X (relW X) μ σ H Q (F ws st)) : wpAny (model X.prog X.w) X.A (call (.ref f) us) (EP X pins σ Q) X.xe s := by
  have hl' : (us ++ ([] : List Value)).length = ps.length := by rw [List.append_nil, <- rv.length, <- r.len, hl, hn]
  cases e : F ws st with
  | bad => rw [e] at h; exact h.elim
  | ok w st' =>
    rw [e] at h
    refine wpAny_call (codeAny_mono (Fn.run X.A X.stack s H ⟨us, []⟩ us vs Q (fun _ _ _ => False) hr I.env0 (by have := hb s us I.kIn hl'; rwa [List.append_nil] at this) rv ⟨by rw [<- r.len]; exact hl, μ, ws, st, S, r, by rw [e]; exact h⟩) fun r s' hq => ?_)
    cases r with
    | error e => obtain ⟨_, _, _, _, _, _, z, _⟩ := hq; exact z.elim
    | ok fl =>
      cases fl with
      | ret u => exact I.after hq
      | next => exact False.elim hq
      | brk => exact False.elim hq
      | cont => exact False.elim hq
  | ex c st' =>
    rw [e] at h
    refine wpAny_call (codeAny_mono (Fn.run X.A X.stack s H ⟨us, []⟩ us vs (fun _ _ => False) (fun C _ H' => X.mg c = some C /\ ∃ μ', μ <+: μ' /\ Ext X.K H H' /\ StR X.K X.mg μ' st' H') hr I.env0 (by have := hb s us I.kIn hl'; rwa [List.append_nil] at this) rv
      ⟨by rw [<- r.len]; exact hl, μ, ws, st, S, r, by rw [e]; exact fun C μ' H' hC p x S' => ⟨hC, μ', p, x, S'⟩⟩) fun r s' hq => ?_)
    cases r with
    | ok fl =>
      cases fl with
      | ret u => obtain ⟨_, _, _, _, _, _, _, z⟩ := hq; exact z.elim
      | next => exact False.elim hq
      | brk => exact False.elim hq
      | cont => exact False.elim hq
    | error ev =>
      obtain ⟨x, C, t, B, H', rfl, ⟨hC, μ', p, xx, S'⟩, os, bare, un, hok, hx, fl, cov⟩ := hq
      have I' : Inv X pins σ H' s' := I.call' os un hok bare fun b hb => absurd hb (by simp)
      refine h pins μ' H' (.ref x) s' p xx S' ⟨I', x, C, t, B, rfl, hC, hx, fl.1, fl.2.1, fl.2.2.1, .inl fl.2.2.2, fun b o ho hrel => ?_⟩
      refine cov b o ho ?_
      rcases hrel with q | ⟨⟨o0, h0⟩, hb, hbx⟩ | ⟨⟨y, hy⟩, hb⟩ | ⟨pp, hp, rfl⟩
      · exact .inl q
      · refine .inr ⟨?_, fun z => ?_⟩
        · obtain ⟨o', q1⟩ := I.base.there b o0 h0 hbx
          exact ⟨o', q1⟩
        · rcases List.mem_cons.mp (I.stkSub b z) with z | z
          · rw [z] at h0
            exact absurd (Nat.lt_of_lt_of_le (Heap.lt_size h0) I.ok.above) (Nat.lt_irrefl _)
          · exact hb z
      · obtain ⟨v, ov, hov, _⟩ := I.cell y b hy
        exact .inr ⟨⟨_, hov⟩, hb⟩
      · obtain ⟨g1, g2, g3, g4, _⟩ := I.pin pp hp
        refine .inr ⟨⟨_, g1⟩, fun z => ?_⟩
        rcases List.mem_cons.mp (I.stkSub _ z) with z | z
        · exact g3 z
        · exact g4 z
variable {e : Expr} {es : List Expr} {pos p : Pos} {x : Str} {fs : FA}
theorem s_defH {k k' n : Nat} {F : List W -> List Cell -> R W} (Fn : HasH X.prog X.w X.K X.mg X.base k x n F) (hr : RoomH k' X.A) (hk : k <= k') (ha : SA X (e :: es) fs) (hg : Gl X x := by rfl) (hdb : (x == ("__debug__" : Str)) = false := by decide)
    (he : starEach (e :: es) X.env = (false, eval e X.env) :: starEach es X.env := by rfl) (hpl : (backTo pos (starEach es X.env)).any (·.1) = false := by rfl) : SE X (.Call (.Name x p) (e :: es) [] pos) (eDef n F fs) := ⟨by
  intro pins s σ H Q I h
  obtain ⟨f, fd, ps, hm, hkp, hn, hb, Fo⟩ := (Fn.mono hk).ex
  refine wpAny_Call_Name_kw (ld_glob I hg hm ?_ hdb)
  obtain ⟨μ, ρ, st, l, h⟩ := h
  have h' : tA' X fs σ H fun vs H1 => ∃ μ1 st1 ws, Rl X μ1 ρ st1 σ H1 /\ RelWs X.K μ1 H1 ws vs /\ RK X (relW X) μ1 σ H1 Q (if ws.length = n then F ws st1 else .bad) :=
    ⟨μ, ρ, st, l, RK.bind h l fun μ1 st1 x v H1 p1 x1 l1 q1 h1 => ⟨μ1, st1, x, l1, q1, h1⟩⟩
  refine PySem.W.callWith_K (h₀ := X.base) I.ok.mod.kin hkp (thn (ha.h pos pins s σ H _ I h') fun us s1 ⟨vs, H1, I1, r, μ1, st1, ws, l1, r1, q⟩ => ⟨I1.kIn, ?_⟩) he hpl
  by_cases c : ws.length = n
  · rw [if_pos c] at q
    exact run_H Fo hn hr hb I1 l1.sto r1 r c q
  · rw [if_neg c] at q; exact q.elim⟩
end
theorem fnH_of {P : Program} {w : World} {K : PySem.W.Frag} {mg : Str -> Option Value} {base : Heap} {x qual : Str} {st : Stmt} {f : Addr} {fd : FuncData} {N ps : List Str} {k n : Nat} {g : FS} (F : Fun K x qual st f fd) (S : FnScope N ps (defScope st)) (hn : ps.length = n)
    (hbody : ∀ (cdv : Value) (A : Around) (outer : List Env) (s : Shared) (H : Hp) (E : XK), RoomH k (A.deeper (envOfC qual (defScope st) s.heap.objs.size f cdv)) ->
      SB (cxH (CX1 P w) P w K mg base N qual (defScope st) f cdv A outer s H E) (defBody st) g) : FnOkH P w K mg base (CX1 P w) (k + 1) f fd ps (spW K mg n (runF N.length g)) := by
  obtain ⟨oc, od, kV, doc, pm, an, cdv, ct, osl, rfl, lk, hcd⟩ := F.ex
  refine fnH lk hcd S (fun vs H Q E h => by rw [hn]; exact h.1) fun A outer s H vs Q E hr hsp => ?_
  obtain ⟨hl, μ, ws, st0, Sr, r, h⟩ := hsp
  refine ⟨_, (hbody cdv A outer s H E hr).h, μ, ws.map some ++ List.replicate (N.length - ws.length) none, st0, ⟨?_, Sr⟩, ?_⟩
  · unfold start
    rw [<- r.len]
    have base : ∀ (ws : List W) (vs : List V) (m : Nat), RelWs K μ H ws vs -> Paired (fun (o : Option W) (s : Option V) => ∀ w, o = some w -> ∃ v, s = some v /\ RelW K μ H w v) (ws.map some ++ List.replicate m none) (vs.map some ++ List.replicate m none) := by
      intro ws
      induction ws with
      | nil =>
        intro vs m r
        rw [r.nilE]
        induction m with
        | zero => exact .nil
        | succ m ih => exact .cons (fun w z => nomatch z) ih
      | cons w ws ih =>
        intro vs m r
        obtain ⟨y, ys, rfl, ry, rys⟩ := r.consE
        exact .cons (fun w' z => ⟨y, rfl, by cases z; exact ry⟩) (ih ys m rys)
    exact base ws vs _ r
  · unfold runF at h
    cases e : g (ws.map some ++ List.replicate (N.length - ws.length) none) st0 with
    | rt w st' =>
      rw [e] at h
      intro μ' v H' p x S' rw'
      obtain ⟨μ2, p2, S2, r2⟩ := trunc_ok Sr S' p (.consI rw' .nilI)
      obtain ⟨_, e2, r3⟩ := r2.one
      cases e2
      exact h μ2 v H' p2 x S2 r3
    | nx ρ' st' =>
      rw [e] at h
      intro μ' σ' H' p x l'
      obtain ⟨μ2, p2, S2, _⟩ := trunc_ok (ws := []) (vs := []) Sr l'.sto p .nilI
      exact h μ2 .non H' p2 x S2 .non
    | ex c ρ' st' =>
      rw [e] at h
      intro pins μ' σ' H' ev s' p x l' fl
      obtain ⟨μ2, p2, S2, _⟩ := trunc_ok (ws := []) (vs := []) Sr l'.sto p .nilI
      exact fl.leaves rfl rfl fl.inv.ok.frames rfl fun C hC => h C μ2 H' hC p2 x S2
    | bk ρ' st' => rw [e] at h; exact h.elim
    | ct ρ' st' => rw [e] at h; exact h.elim
    | bad => rw [e] at h; exact h.elim
theorem hasH_mk {P : Program} {w : World} {K : PySem.W.Frag} {mg : Str -> Option Value} {base : Heap} {k n : Nat} {x : Str} {st : Stmt} {f : Addr} {fd : FuncData} {ps : List Str} {G : List W -> List Cell -> R W}
    (F : Fun K x x st f fd) (hm : mg x = some (.ref f)) (hn : ps.length = n)
    (hb : ∀ (kV doc pm : Value) (an : Option Addr) (cdv ct : Value) (us : List Value), us.length = ps.length -> bindArgs (PySem.W.fnOf x x (defArgs st) (defBody st) (defScope st) .none kV doc pm an cdv ct) ⟨us, []⟩ = pure (ps.zip us))
    (ok : FnOkH P w K mg base (CX1 P w) k f fd ps (spW K mg n G)) : HasH P w K mg base k x n G := ⟨f, fd, ps, hm, F.kp, hn, F.binds hb, ok⟩
end L2
set_option Elab.async false
set_option linter.all false
set_option maxRecDepth 100000
set_option maxHeartbeats 4000000
namespace L2
open PySem PySem.Spec PyProof.Rows
section
variable {prog : Program} {w : World} {A : Around} {E : Value -> Shared -> Prop} {s : Shared}
end
section
variable {X : Cx}
end
end L2
set_option Elab.async false
set_option linter.all false
set_option maxRecDepth 100000
set_option maxHeartbeats 4000000
namespace L2
open PySem PySem.Spec PyProof.Rows
section
variable {X : Cx} {a b c tg : Expr} {fs : FA} {p pos : Pos}
end
end L2
set_option Elab.async false
set_option linter.all false
set_option maxRecDepth 100000
set_option maxHeartbeats 4000000
namespace L2
open PySem PySem.Spec PyProof.Rows
section
variable {X : Cx} {elt tg iter : Expr} {ifs : List Expr} {scope : Scope} {pos : Pos} {nm : List Str} {cap : List (Option Nat)} {fi : FI} {f : FG} {t : FT} {el : FE}
end
end L2
set_option Elab.async false
set_option linter.all false
set_option maxRecDepth 100000
set_option maxHeartbeats 4000000
namespace L2
open PySem PySem.Spec PyProof.Rows
section
variable {prog : Program} {w : World} {A : Around} {E : Value -> Shared -> Prop} {s : Shared}
variable {z P O i j a b : Addr} {n m : Nat} {xs ys : Array Value} {x y u v : Value}
end
end L2
namespace L2
open PySem PySem.Spec PyProof.Rows
open AutoSeq1 (wpAny_loadPart')
section
variable {prog : Program} {w : World} {A : Around} {E : Value -> Shared -> Prop} {s : Shared}
end
section
variable {X : Cx} {a b : Expr} {fs : FA} {p pos : Pos}
end
end L2
set_option Elab.async false
set_option linter.all false
set_option maxRecDepth 100000
set_option maxHeartbeats 4000000
namespace L2
open PySem PySem.Spec PyProof.Rows
open Builtin.Str (tooLong)
section
variable {prog : Program} {w : World} {A : Around} {E : Value -> Shared -> Prop} {s : Shared}
end
section
variable {X : Cx}
end
end L2
set_option Elab.async false
set_option linter.all false
set_option maxRecDepth 100000
set_option maxHeartbeats 4000000
namespace L2
open PySem PySem.Spec PyProof.Rows
section
variable {X : Cx}
end
end L2
set_option Elab.async false
set_option linter.all false
set_option maxRecDepth 100000
set_option maxHeartbeats 4000000
namespace L2
open PySem PySem.Spec PyProof.Rows
section
variable {X : Cx}
end
end L2
namespace L2
open PySem PySem.Spec PyProof.Rows
end L2
namespace L2
open PySem PySem.Spec PyProof.Rows
abbrev Walk2 := List W × List (Nat × List W)
abbrev FI2 := EnvW -> List Cell -> R Walk2
section
variable {X : Cx} {elt tg iter : Expr} {ifs : List Expr} {scope : Scope} {pos : Pos} {nm : List Str} {cap : List (Option Nat)} {fi : FI2} {f : FG} {t : FT} {el : FE} {m : Nat}
end
section
variable {X : Cx} {a b : Expr} {fs : FA} {p pos : Pos}
end
end L2
set_option Elab.async false
set_option linter.all false
set_option maxRecDepth 100000
set_option maxHeartbeats 4000000
namespace L2
open PySem PySem.Spec PyProof.Rows
def findN (l : List Nat) (c : Nat) : Int := match Builtin.Str.occurrences (tx l) (tx [c]) 0 (tx l).length 1 with
  | i :: _ => (i : Int)
  | [] => -1
theorem findN_no {l : List Nat} {c : Nat} (h : c ∉ l) : findN l c = -1 := by
  have e := StrLaws.found_one (tx l) c
  have e2 : (tx l).cps.toList = l := by simp [tx]
  rw [e2, decide_eq_false h] at e
  unfold findN
  cases q : Builtin.Str.occurrences (tx l) (tx [c]) 0 (tx l).length 1 with
  | nil => rfl
  | cons a r =>
    have e' : (!(Builtin.Str.occurrences (tx l) (tx [c]) 0 (tx l).length 1).isEmpty) = false := e
    rw [q] at e'; simp at e'
section
variable {X : Cx}
def mFind (x : W) (ws : List W) (st : List Cell) : R W := match x, ws with
  | .str l, [.str [c]] => .ok (.int (findN l c)) st
  | _, _ => .bad
theorem m_findW : MtW X "str.find" mFind := ⟨fun pins s σ H x vs v us Q I rv rus ⟨μ, st, wx, ws, S, rx, rs, q⟩ => by
  unfold mFind at q
  split at q
  · rename_i l c
    obtain ⟨y1, rfl, ry⟩ := rs.one
    have := rx.strE; subst this
    have := ry.strE; subst this
    obtain ⟨t, rfl⟩ := rv
    obtain ⟨u, rfl, t2, rfl⟩ := rus.one
    refine call_gives PySem.F.slot_str_find (typeIs_str _ _ _) PySem.F.entry_str_find (PySem.F.args_str_find_2 _ _) (gives_str_find (tx l) (tx [c]) t t2) ?_
    exact ⟨.int _, H, I.tok _, ⟨_, rfl⟩, q μ _ H (List.prefix_refl _) Ext.refl S .int⟩
  · exact q.elim, fun x ws st => by
  unfold mFind
  repeat' split
  all_goals trivial⟩
def bIntA (ws : List W) (st : List Cell) : R W := match ws with
  | [.str [c]] => if 48 <= c /\ c <= 51 then .ok (.int (c - 48 : Nat)) st else .bad
  | _ => bInt ws st
theorem b_intA : CallW X (.type "int") bIntA := ⟨fun pins s σ H vs us Q I rv ⟨μ, st, ws, S, r, q⟩ => by
  unfold bIntA at q
  split at q
  · rename_i c
    split at q
    · rename_i hc
      obtain ⟨y, rfl, ry⟩ := r.one
      have := ry.strE; subst this
      obtain ⟨k, rfl⟩ : ∃ k, c = 48 + k := ⟨c - 48, by omega⟩
      refine c_intS.h pins s σ H _ us Q I rv ⟨k, rfl, by omega, ?_⟩
      rw [show 48 + k - 48 = k by omega] at q
      exact q μ _ H (List.prefix_refl _) Ext.refl S .int
    · exact q.elim
  · exact b_int.h pins s σ H _ us Q I rv ⟨μ, st, _, S, r, q⟩, fun ws st => by
  unfold bIntA
  split
  · split <;> trivial
  · exact (b_int (X := X)).n _ _⟩
end
end L2
set_option Elab.async false
set_option linter.all false
set_option maxRecDepth 100000
set_option maxHeartbeats 4000000
namespace L2
open PySem PySem.Spec PyProof.Rows
abbrev cxE (X : Cx) (nm : List Str) (scope : Scope) (C : Addr) (s0 : Shared) (H0 : Hp) (fp : List Addr) (E : Value -> Shared -> Prop) : Cx := { cxComp X nm scope [] C s0 H0 fp with xe := E }
theorem Flies.held {X : Cx} {pins : List (Addr × Obj)} {σ : St} {c : Str} {H : Hp} {e : Value} {s : Shared} {Q : Unit -> Shared -> Prop} {E : Value -> Shared -> Prop} {M : Model} {env1 : Env} {outer : List Env} {L : Addr} (f : Flies X pins σ c H e s)
    (hst : X.stack = env1 :: outer) (hf1 : env1.frame = some L) (hfX : X.env.frame = some L) (hA : X.A.frames = some X.stack)
    (h : ∀ x C t B h', e = .ref x -> X.mg c = some C -> H x = none -> Heap.HeldW B X.stack x C (.ref t) L h' -> s.heap.UpToSlots h' ->
      (∀ b o, s.heap.get? b = some o -> (H b ≠ none \/ ((∃ o0, X.s₀.heap.get? b = some o0) /\ b ∉ X.fs /\ b ∉ X.ex) \/ ((∃ y, X.env.cells.lookup y = some b) /\ b ∉ frs X.stack) \/ ∃ p ∈ X.pn ++ pins, p.1 = b) -> B.get? b = some o) -> Q () { s with heap := h' }) :
    wpAny M X.A (noteFrame e env1) Q E s := by
  obtain ⟨x, C, t, B, rfl, hC, hx, st, nx, ff, tr, cov⟩ := f.ex
  rw [hst] at ff hA
  rcases tr with tr | ⟨oe, vs, he, rfl, _, hd, h1, h0⟩ | ⟨L', hL, tr⟩
  · exact wpAny_looks_onW hA hf1 ⟨st, nx, ff, tr⟩ fun h1 hh u1 => h x C t B h1 rfl hC hx (by rw [hst]; exact hh) u1 cov
  · unfold noteFrame
    simp only [hf1]
    refine wpAny_bind (wpAny_field he hd h1 ?_)
    rw [if_neg (by decide)]
    refine wpAny_entryW hA ff hf1 he st nx hd (Array.getElem?_eq_some_iff.mp h1).1 h0 fun h' hN => ?_
    obtain ⟨k1, k2, k3, k4⟩ := hN
    exact h x _ t B h' rfl hC hx ⟨k1, nx, by rw [hst]; exact k2, k3⟩ k4 cov
  · rw [hfX] at hL
    cases hL
    exact wpAny_noteFrame_againW hf1 tr (h x C t B s.heap rfl hC hx ⟨st, nx, by rw [hst]; exact ff, tr⟩ (Heap.UpToSlots.refl _) cov)
theorem funFrames_to {h h2 B B' : Heap} : ∀ {l : List Env}, h.FunFrames B l -> (∀ b ∈ l.filterMap (·.frame), B'.get? b = none /\ ∃ o, h2.get? b = some o /\ ∀ vs, o.data ≠ .fields vs) -> h2.FunFrames B' l
  | [], _, _ => trivial
  | env :: rest, ⟨h1, ⟨L, o, hL, _⟩, h3⟩, k => by
    have hm : L ∈ (env :: rest).filterMap (·.frame) := by rw [List.filterMap_cons, hL]; exact List.mem_cons_self ..
    obtain ⟨k1, o2, k2, k3⟩ := k L hm
    refine ⟨h1, ⟨L, o2, hL, k1, k2, k3⟩, funFrames_to h3 fun b hb => k b ?_⟩
    rw [List.filterMap_cons, hL]; exact List.mem_cons_of_mem _ hb
def OutB (X : Cx) (σ : St) (XB : Cx) : Prop := ∀ pinsB σB c H' e s', Flies XB pinsB σB c H' e s' -> (∀ pins e' s'', Flies X pins σ c H' e' s'' -> X.xe e' s'') -> XB.xe e s'
def tCompE (X : Cx) (nm : List Str) (scope : Scope) (wi : TI) (g : TG) (te : Cx -> TE) : TE := fun σ H Q => wi σ H fun J H1 => ∃ W : Nat -> Nat -> List V -> Hp -> Prop, (∃ m, W 0 m [] H1) /\ ∀ i m ys H2, W i m ys H2 ->
  (J.stop i H2 /\ ys.length <= sizeLine /\ ∀ p, H2 p = none -> Q (.ref p) (upd H2 p (.lst ys))) \/
  (J.go i H2 /\ ∀ x H3, J.yld i H2 x H3 -> ∀ C s0 H0 fp E, OutB X σ (cxE X nm scope C s0 H0 fp E) -> g x (List.replicate nm.length none) H3 fun σ2 H4 => te (cxE X nm scope C s0 H0 fp E) σ2 H4 fun y H6 => ys.length < sizeLine /\ ∃ m', m' < m /\ W (i + 1) m' (ys ++ [y]) H6)
section
variable {X : Cx} {elt tg iter : Expr} {scope : Scope} {pos : Pos} {nm : List Str} {wi : TI} {g : TG} {te : Cx -> TE}
theorem outB {pins : List (Addr × Obj)} {σ : St} {H1 : Hp} {s2 : Shared} {C : Addr} {fp : List Addr} {Q : Value -> Shared -> Prop} {R : Value -> Shared -> Prop} (I2 : Inv X pins σ H1 s2) (hst : X.stack = X.env :: X.outer) (hfr : X.env.frame = some X.env.locals) (hC : s2.heap.objs.size <= C) (hfp : ∀ b ∈ fp, FpOk X pins H1 b)
    (hR : ∀ x s'', (∃ m, s''.heap.Ns C m /\ ∀ h', Heap.SameBut C s''.heap h' -> wpAny (model X.prog X.w) X.A (PySem.passOn "comprehension.variables-let-go" x (compEnvC scope [] C X.env)) Q X.xe { s'' with heap := h' }) -> R x s'') :
    OutB X σ (cxE X nm scope C s2 H1 fp (notedBy (model X.prog X.w) X.A (compEnvC scope [] C X.env) R)) := by
  intro pinsB σB c H' e s' f hX
  have IB := f.inv
  show wpAny (model X.prog X.w) X.A (noteFrame e X.env) (fun _ s'' => R e s'') R s'
  refine Flies.held (X := cxE X nm scope C s2 H1 fp (notedBy (model X.prog X.w) X.A (compEnvC scope [] C X.env) R)) f hst hfr hfr I2.ok.frames fun x Cc t B h1 he hCc hx hh up cov => ?_
  subst he
  obtain ⟨mm, hns, _⟩ := id IB.loc
  have hns : s'.heap.Ns C mm := hns
  refine hR _ _ ⟨mm, up.ns hns, fun h' hs' => ?_⟩
  obtain ⟨k1, k2, k3, oe, vs, T, oT, ts, ho, ⟨hcls, h0⟩, hd, v1, hnT, hTe, hT, hdT, h3⟩ := hh
  have hCd : ∀ o, h1.get? C = some o -> ∀ vs, o.data ≠ .fields vs := fun o ho vs hv => by
    obtain ⟨o', es, ep, a1, a2, _⟩ := up.ns hns
    rw [ho] at a1; cases a1
    rw [hv] at a2; cases a2
  have xC : x ≠ C := fun z => hCd oe (z ▸ ho) vs hd
  have TC : T ≠ C := fun z => hCd oT (z ▸ hT) ts hdT
  have ho' : h'.get? x = some oe := (hs'.2 x xC).trans ho
  have hT' : h'.get? T = some oT := (hs'.2 T TC).trans hT
  have hsz3 : 3 < ts.size := (Array.getElem?_eq_some_iff.mp h3).1
  unfold PySem.passOn
  refine wpAny_bind (wpAny_field (s := { s' with heap := h' }) ho' hd v1 ?_)
  rw [if_neg (show ¬ ((Value.ref T == Value.none) = true) from by simp)]
  unfold setFlight
  refine wpAny_bind (wpAny_bind (wpAny_field (s := { s' with heap := h' }) ho' hd v1 ?_))
  rw [if_pos (show (Value.ref T != Value.none) = true from by simp)]
  refine wpAny_setField (s := { s' with heap := h' }) hT' hdT hsz3 (wpAny_throw ?_)
  have hfe : (compEnvC scope [] C X.env).frame = some X.env.locals := hfr
  rw [hfe]
  generalize hh2 : h'.update T (Obj.mapFields (·.setIfInBounds 3 ((some X.env.locals).elim Value.none fun f => rawInt f))) = h2
  have other : ∀ b, b ≠ T -> h2.get? b = h'.get? b := fun b hb => by rw [<- hh2]; exact Heap.get?_update_other _ _ (Ne.symm hb)
  have other2 : ∀ b, b ≠ T -> b ≠ C -> h2.get? b = h1.get? b := fun b hb hc => (other b hb).trans (hs'.2 b hc)
  have ofB : ∀ b o, B.get? b = some o -> b ≠ C -> h2.get? b = some o := fun b o hb hc => (other2 b (fun z => by rw [z, hnT] at hb; cases hb) hc).trans (k1 b o hb)
  have upC : ∀ b o, s'.heap.get? b = some o -> (∀ vs, o.data ≠ .fields vs) -> b ≠ C -> ∃ sl, h2.get? b = some { o with slots := sl } := fun b o hb hn hc => by
    obtain ⟨sl, q⟩ := up b o hb hn
    exact ⟨sl, (other2 b (fun z => by rw [z, hT] at q; cases q; exact hn ts hdT) hc).trans q⟩
  have oldC : ∀ b o, s2.heap.get? b = some o -> b ≠ C := fun b o hb => Nat.ne_of_lt (Nat.lt_of_lt_of_le (Heap.lt_size hb) hC)
  have un : Un (frs X.stack) fp H1 H' s2.heap s'.heap := IB.base
  have HC : H' C = none := IB.free
  have keptH : ∀ b o, s'.heap.get? b = some o -> H' b ≠ none -> B.get? b = some o /\ h2.get? b = some o := fun b o hb hn => by
    have := cov b o hb (.inl hn)
    exact ⟨this, ofB b o this fun z => hn (z ▸ HC)⟩
  have kept : ∀ b o, s'.heap.get? b = some o -> (∃ o0, s2.heap.get? b = some o0) -> b ∉ frs X.stack -> b ∉ fp -> B.get? b = some o /\ h2.get? b = some o := fun b o hb h0 hf hp => by
    have := cov b o hb (.inr (.inl ⟨h0, hf, hp⟩))
    obtain ⟨o0, q⟩ := h0
    exact ⟨this, ofB b o this (oldC b o0 q)⟩
  have frames : ∀ b ∈ frs X.stack, ∀ o, s'.heap.get? b = some o -> b ≠ C -> ∃ sl, h2.get? b = some { o with slots := sl } := fun b hb o ho hc => by
    obtain ⟨_, o', ho', hd'⟩ := IB.funs.mem hb
    rw [ho] at ho'; cases ho'
    exact upC b o ho hd' hc
  have frC : ∀ b ∈ frs X.stack, b ≠ C := fun b hb => by
    obtain ⟨_, o, q, _⟩ := I2.stack.mem hb
    exact oldC b o q
  have IX : Inv X pins σ H' { s' with heap := h2 } := by
    refine I2.call' (ch := fp) IB.os ⟨fun b o q n hb hx => ?_, fun b o q n hb hx => ?_, fun b o q n hx => un.free b o q n hx, fun b o q hx => ?_, un.tups, un.frzs, un.tbls⟩ (fun b u hb => ?_) IB.bare fun b hb => ?_
    · exact (kept b o (un.keep b o q n hb hx) ⟨o, q⟩ hb hx).2
    · obtain ⟨sl, q1⟩ := un.slot b o q n hb hx
      obtain ⟨sl2, q2⟩ := frames b hb _ q1 (oldC b o q)
      exact ⟨sl2, q2⟩
    · obtain ⟨o', q1⟩ := un.there b o q hx
      by_cases hb : b ∈ frs X.stack
      · obtain ⟨sl2, q2⟩ := frames b hb _ q1 (oldC b o q); exact ⟨_, q2⟩
      · exact ⟨o', (kept b o' q1 ⟨o, q⟩ hb hx).2⟩
    · refine (IB.hok b u hb).stay (fun c v hc q => (keptH c v q ?_).2) (fun _ q => q) fun _ _ q => q
      rcases hc with rfl | hc
      · rw [hb]; simp
      · rw [hc]; simp
    · obtain ⟨_, g1, _, g3, g4, g5⟩ := hfp b hb
      exact ⟨g3, g1, g4, g5⟩
  have hBx : ∀ b o, (PySem.W.hideAll B [C]).get? b = some o -> B.get? b = some o /\ b ≠ C := fun b o hb => ⟨PySem.W.of_hideAll _ hb, fun z => by
    rw [z, PySem.W.hideAll_none [C] (by simp)] at hb; cases hb⟩
  have toB : ∀ b o, B.get? b = some o -> b ≠ C -> (PySem.W.hideAll B [C]).get? b = some o := fun b o hb hc => PySem.W.hideAll_get _ hb (by simpa using hc)
  have toN : ∀ b, B.get? b = none -> (PySem.W.hideAll B [C]).get? b = none := fun b hb => by
    cases q : (PySem.W.hideAll B [C]).get? b with
    | none => rfl
    | some o => rw [(hBx b o q).1] at hb; cases hb
  refine hX pins _ _ ⟨IX, x, Cc, t, PySem.W.hideAll B [C], rfl, hCc, hx, fun b o hb => ofB b o (hBx b o hb).1 (hBx b o hb).2, toN x k2, ?_, .inr (.inr ⟨X.env.locals, hfr, ?_⟩), fun b o hb hr => ?_⟩
  · refine funFrames_to k3 fun b hb => ?_
    obtain ⟨z1, o, z2, z3⟩ := IB.funs.mem hb
    obtain ⟨sl, q⟩ := upC b o z2 z3 (frC b hb)
    exact ⟨toN b (k3.mem hb).1, _, q, z3⟩
  · have hT2 := Heap.get?_update_self (Obj.mapFields (·.setIfInBounds 3 ((some X.env.locals).elim Value.none fun f => rawInt f))) hT' (Obj.isFreed_of_fields (Obj.data_mapFields hdT _))
    rw [hh2] at hT2
    exact ⟨oe, vs, T, _, _, (other x (Ne.symm hTe)).trans ho', ⟨hcls, h0⟩, hd, v1, toN T hnT, hTe, hT2, Obj.data_mapFields hdT _, by simp [hsz3]⟩
  · -- all that the def knows stood already
    have fin : ∀ o1, s'.heap.get? b = some o1 -> B.get? b = some o1 /\ h2.get? b = some o1 -> b ≠ C -> (PySem.W.hideAll B [C]).get? b = some o := fun o1 _ q hc => by
      have e : some o1 = some o := q.2.symm.trans hb
      cases e
      exact toB b _ q.1 hc
    have inS : ∀ o0, s2.heap.get? b = some o0 -> b ∉ frs X.stack -> b ∉ fp -> (PySem.W.hideAll B [C]).get? b = some o := fun o0 h0 hf hp => by
      obtain ⟨o', q1⟩ := un.there b o0 h0 hp
      exact fin o' q1 (kept b o' q1 ⟨o0, h0⟩ hf hp) (oldC b o0 h0)
    rcases hr with hr | ⟨⟨o0, h0⟩, hf, hbx⟩ | ⟨⟨y, hy⟩, hf⟩ | ⟨p, hp, rfl⟩
    · cases hu : H' b with
      | none => exact absurd hu hr
      | some u =>
        obtain ⟨ob, hob⟩ := (IB.hok b u hu).ex
        exact fin ob hob (keptH b ob hob hr) fun z => hr (z ▸ HC)
    · obtain ⟨o1, q1⟩ := I2.base.there b o0 h0 hbx
      refine inS o1 q1 (fun z => ?_) fun z => ?_
      · rcases List.mem_cons.mp (I2.stkSub b z) with z | z
        · rw [z] at h0; exact absurd (Nat.lt_of_lt_of_le (Heap.lt_size h0) I2.ok.above) (Nat.lt_irrefl _)
        · exact hf z
      · rcases (hfp b z).2.2.2.1 with q | q
        · exact hbx q
        · exact absurd (Heap.lt_size h0) (Nat.not_lt.mpr q)
    · obtain ⟨v, ov, hov, _⟩ := I2.cell y b hy
      exact inS ov hov hf fun z => (hfp b z).2.2.2.2.1 y b hy rfl
    · obtain ⟨p1, _, p3, p4, _⟩ := I2.pin p hp
      refine inS _ p1 (fun z => ?_) fun z => (hfp _ z).2.2.2.2.2 p hp rfl
      rcases List.mem_cons.mp (I2.stkSub _ z) with z | z
      · exact p3 z
      · exact p4 z
def noB (sn : List (Str × NameKind)) : Bool := sn.all fun x => !(x.2 == .cell) && !(x.2 == .free) && (!(x.2 == .local) || sn.lookup x.1 == some .local)
theorem pe_compE (hcalm : X.calm = true) (hkind : scope.kind = .function) (hB : noB scope.names = true) (hst : X.stack = X.env :: X.outer) (hfr : X.env.frame = some X.env.locals)
    (hi : PI X tg iter wi) (hg : ∀ C s0 H0 fp E, PG (cxE X nm scope C s0 H0 fp E) tg g) (he : ∀ C s0 H0 fp E, PE (cxE X nm scope C s0 H0 fp E) elt (te (cxE X nm scope C s0 H0 fp E))) (hs : ∀ x, foldedSetIterable iter X.env x = pure x := by intro _; rfl) :
    PE X (.ListComp elt [⟨tg, iter, [], 0⟩] scope pos) (tCompE X nm scope wi g te) := by
  simp only [noB, Bool.and_eq_true, List.all_eq_true, Bool.or_eq_true, Bool.not_eq_true', beq_iff_eq, beq_eq_false_iff_ne] at hB
  have hcell : ∀ y ∈ scope.names, y.2 ≠ .cell := fun y hy => (hB y hy).1.1
  have hfree : ∀ y ∈ scope.names, y.2 ≠ .free := fun y hy => (hB y hy).1.2
  have hnames : ∀ y ∈ scope.names, y.2 = .local -> scope.names.lookup y.1 = some .local := fun y hy hl => ((hB y hy).2).resolve_left fun z => z hl
  have hrel : relabel scope X.env = scope := by
    unfold relabel
    have : scope.names.map (fun (x : Str × NameKind) => match x with | (n, k) => if (k == .free && X.env.scope.kind == .function && X.env.kindOf n == some .cell) then (n, NameKind.cell) else (n, k)) = scope.names := by
      conv => rhs; rw [<- List.map_id scope.names]
      refine List.map_congr_left fun y hy => ?_
      obtain ⟨a, b⟩ := y
      have hb : b ≠ .free := hfree _ hy
      show (if (b == .free && _ && _) then _ else _) = _
      rw [if_neg (by simp [hb])]; rfl
    rw [this]
  have hhas : ∀ x, ((relabel scope X.env).names.lookup x = some .cell \/ (relabel scope X.env).names.lookup x = some .free) -> ∃ c, ([] : List (Str × Addr)).lookup x = some c := fun x hx => by
    rw [hrel] at hx
    rcases hx with hx | hx
    · exact absurd rfl (hcell _ (lookup_mem' hx))
    · exact absurd rfl (hfree _ (lookup_mem' hx))
  intro pins s σ H Q I h
  rw [eval_ListComp]
  refine wpAny_comprehension rfl hs hfree hkind hnames (thn (hi pins s σ H _ I h) fun v s1 h1 => thn h1 fun itv s2 h2 => ?_)
  obtain ⟨it, fp, tn, J, H1, e, I2, T, st2, f2, W, ⟨m0, w0⟩, turn⟩ := h2
  subst e
  have hfpn : ∀ b ∈ fp, b < s2.heap.objs.size := fun b hb => let ⟨o, ho, _⟩ := T.obj _ _ st2 b hb; Heap.lt_size ho
  have hfpc : ∀ b ∈ fp, ∀ x c, X.env.cells.lookup x = some c -> c ≠ b := fun b hb => (f2 b hb).2.2.2.2.1
  refine wpAny_newObj_type (wpAny_newFunctionEnv hcell (by intro y hy; simp at hy) (fun h₁ hns₁ hsb₁ => ?_) hkind)
  dsimp only at hns₁ hsb₁ ⊢
  generalize hH2 : s2.heap.push { cls := .type "list", dict := none, data := .seq ([] : List Value).toArray } = G2 at hns₁ hsb₁ ⊢
  suffices key : ∀ (env0 : Env) (R : Result -> Shared -> Prop), env0 = compEnvC scope [] G2.objs.size X.env ->
      (∀ a s', (∃ m, s'.heap.Ns G2.objs.size m /\ ∀ h', Heap.SameBut G2.objs.size s'.heap h' -> EP X pins σ Q (.ref s2.heap.objs.size) { s' with heap := h' }) -> R (.ok a) s') ->
      (∀ x s', (∃ m, s'.heap.Ns G2.objs.size m /\ ∀ h', Heap.SameBut G2.objs.size s'.heap h' -> wpAny (model X.prog X.w) X.A (PySem.passOn "comprehension.variables-let-go" x env0) (EP X pins σ Q) X.xe { s' with heap := h' }) -> R (.error x) s') ->
      codeAny (model X.prog X.w) X.A (.compStart (.ListComp elt [⟨tg, iter, [], 0⟩] scope pos) 0 (.ref it) (.ref s2.heap.objs.size) env0) R { s2 with heap := h₁, toks := s2.toks + ([] : List (Str × Value)).length } by
    exact key _ _ (by unfold compEnvC; rw [hrel]; rfl) (fun a s' h => h) (fun x s' h => h)
  rintro env0 R rfl hok herr
  obtain ⟨EB, hEB⟩ : ∃ EB, EB = notedBy (model X.prog X.w) X.A (compEnvC scope [] G2.objs.size X.env) (fun e s' => R (.error e) s') := ⟨_, rfl⟩
  have hC : G2.objs.size = s2.heap.objs.size + 1 := by rw [<- hH2, Heap.size_push]
  have hDC : s2.heap.objs.size ≠ G2.objs.size := by rw [hC]; exact Nat.ne_of_lt (Nat.lt_succ_self _)
  have old : ∀ b o, s2.heap.get? b = some o -> h₁.get? b = some o := fun b o e => hsb₁.extBut b o (by rw [hC]; exact Nat.ne_of_lt (Nat.lt_succ_of_lt (Heap.lt_size e))) (Heap.get?_push_of_some _ (hH2 ▸ Heap.get?_push_of_some _ e))
  have hacc : h₁.get? s2.heap.objs.size = some { cls := .type "list", data := .seq ([] : List Value).toArray } := hsb₁.extBut _ _ hDC (Heap.get?_push_of_some _ (hH2 ▸ Heap.get?_push_size _ rfl))
  have okB : (cxE X nm scope G2.objs.size s2 H1 fp EB).Ok := by
    refine ⟨I2.ok.mod, hkind, I2.ok.glob, I2.ok.blt, by show s2.heap.objs.size <= G2.objs.size; omega, fun x y c h1 h2 => (by cases h1), fun x hx => hhas x hx, fun x c h0 => (by cases h0), fun hc => I2.ok.hd hcalm, I2.ok.frames, .inl rfl, ?_, ?_, ?_, ?_, ?_, ?_, ?_⟩
    · intro b hb
      exact ⟨Nat.ne_of_lt (Nat.lt_of_lt_of_le (hfpn b hb) (by show _ <= G2.objs.size; omega)), fun x c hx => (by cases hx)⟩
    · exact fun b o hb => I2.bs b o hb
    · exact Nat.le_trans I2.ok.bsz I2.sz
    · intro b o hb z
      rcases (f2 b z).2.2.2.1 with q | q
      · exact I2.ok.noex b o hb q
      · exact absurd (Heap.lt_size (I2.ok.bs b o hb).1) (Nat.not_lt.mpr q)
    · intro b hb z
      rcases List.mem_cons.mp (I2.stkSub b z) with q | q
      · exact (f2 b hb).2.1 q
      · exact (f2 b hb).2.2.1 q
    · exact I2.stack
    · exact I2.stkFree
  have I4 : Inv (cxE X nm scope G2.objs.size s2 H1 fp EB) [] (List.replicate nm.length none) H1 { s2 with heap := h₁, toks := s2.toks + ([] : List (Str × Value)).length } := by
    refine ⟨okB, rfl, I2.bare, Un.kept old, ⟨_, hns₁, fun i x v _ e2 => ?_⟩, fun x c hx => (by cases hx), ?_, fun x c hx => (by cases hx), fun p hp => absurd hp (by simp), I2.hok.kept old, by simp⟩
    · rw [List.getElem?_replicate] at e2; split at e2 <;> cases e2
    · exact I2.hok.fresh (by show _ <= G2.objs.size; omega)
  have hsz0 : ∀ {Hx : Hp} {sx : Shared} {px : List (Addr × Obj)} {σx : St}, Inv (cxE X nm scope G2.objs.size s2 H1 fp EB) px σx Hx sx -> Hx s2.heap.objs.size = none -> ∀ {oa : Obj}, sx.heap.get? s2.heap.objs.size = some oa -> (∀ v, oa.data ≠ .cell v) ->
      Inv (cxE X nm scope G2.objs.size s2 H1 fp EB) [(s2.heap.objs.size, oa)] σx Hx sx := fun {Hx sx px σx} Ix hn {oa} ho hd => Ix.pins_of fun p hp => by
    have e : p = (s2.heap.objs.size, oa) := by simpa using hp
    subst e
    exact ⟨ho, hn, hDC, fun z => by
      obtain ⟨_, o, q, _⟩ := I2.stack.mem z
      exact absurd (Heap.lt_size q) (Nat.lt_irrefl _), hd⟩
  have hfpB : ∀ {Hx : Hp} {oa : Obj}, (∀ b ∈ fp, Hx b = none) -> ∀ b ∈ fp, FpOk (cxE X nm scope G2.objs.size s2 H1 fp EB) [(s2.heap.objs.size, oa)] Hx b := fun {Hx oa} hn b hb =>
    ⟨hn b hb, (okB.exf b hb).1, okB.exfs b hb, .inl hb, (okB.exf b hb).2, fun p hp => by
      have e : p = (s2.heap.objs.size, oa) := by simpa using hp
      subst e
      exact Nat.ne_of_gt (hfpn b hb)⟩
  have hcalmB : (cxE X nm scope G2.objs.size s2 H1 fp EB).calm = true := hcalm
  have out : OutB X σ (cxE X nm scope G2.objs.size s2 H1 fp EB) := by rw [hEB]; exact outB I2 hst hfr (by omega) f2 fun x s'' h => herr x s'' h
  have blank : ∀ {Hx : Hp} {sx : Shared} {px : List (Addr × Obj)} {σx : St}, Inv (cxE X nm scope G2.objs.size s2 H1 fp EB) px σx Hx sx -> Inv (cxE X nm scope G2.objs.size s2 H1 fp EB) px (List.replicate nm.length none) Hx sx := fun {Hx sx px σx} Ix => by
    obtain ⟨mb, hnb, _⟩ := id Ix.loc
    refine ⟨Ix.ok, Ix.os, Ix.bare, Ix.base, ⟨mb, hnb, fun i x v _ e2 => ?_⟩, Ix.cell, Ix.free, Ix.freeC, Ix.pin, Ix.hok, by show (List.replicate nm.length none).length = nm.length; simp⟩
    rw [List.getElem?_replicate] at e2; split at e2 <;> cases e2
  have loop : ∀ sx : Shared, sx = { s2 with heap := h₁, toks := s2.toks + ([] : List (Str × Value)).length } ->
      codeAny (model X.prog X.w) X.A (.compLoop (.ListComp elt [⟨tg, iter, [], 0⟩] scope pos) 0 (.ref it) (.ref s2.heap.objs.size) (compEnvC scope [] G2.objs.size X.env))
        R sx := by
    rintro sx rfl
    refine codeAny_loop rfl (fun n s' => ∃ i ys H', Inv (cxE X nm scope G2.objs.size s2 H1 fp EB) [] (List.replicate nm.length none) H' s' /\ tn i s'.heap /\ (∀ b ∈ fp, H' b = none) /\ H' s2.heap.objs.size = none /\
      (∃ its k, Vals ys its /\ s'.heap.get? s2.heap.objs.size = some { cls := .type "list", data := .seq its.toArray k }) /\ W i n ys H') ?_ m0
      ⟨0, [], H1, I4, T.keep _ _ _ st2 (fun b _ o e => old b o e), fun b hb => (f2 b hb).1, I2.fresh, ⟨[], 0, .nil, hacc⟩, w0⟩
    rintro n s3 ⟨i, ys, H3, I3, st3, fr3, na3, ⟨its, ka, rv, ea⟩, w3⟩
    show wpAny _ X.A ((compTurn (.ListComp elt [⟨tg, iter, [], 0⟩] scope pos) 0 (.ref it) (.ref s2.heap.objs.size) (compEnvC scope [] G2.objs.size X.env)).onRaise (fun x => do noteFrame x (compEnvC scope [] G2.objs.size X.env); theTreesLotGoes x)) _ _ s3
    refine wpAny_noted ?_
    rw [compTurn_list]
    refine wpAny_bind (wpAny_standAt ?_)
    have I3p := hsz0 I3 na3 ea (fun v z => by cases z)
    rcases turn i n ys H3 w3 with ⟨stop, hz, qn⟩ | ⟨go, step⟩
    · refine wpAny_bind (wpAny_mono (T.done (cxE X nm scope G2.objs.size s2 H1 fp EB) rfl rfl rfl hcalmB i _ s3 _ H3 (fun _ _ => False) I3p (hfpB fr3) st3 stop) (fun r s4 hr => ?_) fun _ _ z => z.elim)
      obtain ⟨hr, I4'⟩ := hr
      subst hr
      refine wpAny_pure ?_
      obtain ⟨m4, hn4, _⟩ := id I4'.loc
      refine hok _ _ ⟨m4, hn4, fun h' hs' => ?_⟩
      have pa := I4'.pin (s2.heap.objs.size, { cls := .type "list", data := .seq its.toArray ka }) (by simp)
      have ne : ∀ b o, s2.heap.get? b = some o -> b ≠ s2.heap.objs.size /\ b ≠ G2.objs.size := fun b o e => ⟨Nat.ne_of_lt (Heap.lt_size e), Nat.ne_of_lt (by rw [hC]; exact Nat.lt_succ_of_lt (Heap.lt_size e))⟩
      have kp : ∀ b o, b ≠ G2.objs.size -> s4.heap.get? b = some o -> h'.get? b = some o := fun b o hb e => hs'.extBut b o hb e
      refine ⟨.ref s2.heap.objs.size, upd H3 s2.heap.objs.size (.lst ys), ?_, rfl, qn _ na3⟩
      refine I2.call' (ch := fp) I4'.os ⟨fun b o e n hb hx => ?_, fun b o e n hb hx => ?_, fun b o e n hx => ?_, fun b o e hx => ?_, fun b xs e => ?_, fun b o u e => ?_, fun b ps e => ?_⟩ ?_ I4'.bare fun b hb => ?_
      · exact kp b o (ne b o e).2 (I4'.base.keep b o e n hb hx)
      · obtain ⟨sl, q⟩ := I4'.base.slot b o e n hb hx
        exact ⟨sl, kp b _ (ne b o e).2 q⟩
      · rw [upd_ne (ne b o e).1]; exact I4'.base.free b o e n hx
      · obtain ⟨o', q⟩ := I4'.base.there b o e hx
        exact ⟨o', kp b _ (ne b o e).2 q⟩
      · have q := I4'.base.tups b xs e
        rw [upd_ne (ne_of_none q na3)]; exact q
      · have q := I4'.base.frzs b o u e
        rw [upd_ne (ne_of_none q na3)]; exact q
      · obtain ⟨mr, q⟩ := I4'.base.tbls b ps e
        exact ⟨mr, by rw [upd_ne (ne_of_none q na3)]; exact q⟩
      · intro b o e
        by_cases hb : b = s2.heap.objs.size
        · subst hb
          rw [upd_same] at e; cases e
          exact ⟨hz, its, ka, rv, kp _ _ hDC pa.1⟩
        · rw [upd_ne hb] at e
          refine (I4'.hok b o e).stay (fun c u hc q => kp c u (fun z => ?_) q) (fun c q => by rw [upd_ne (ne_of_none q na3)]; exact q) fun c xs q => by rw [upd_ne (ne_of_none q na3)]; exact q
          subst z
          have fr : H3 G2.objs.size = none := I4'.free
          rcases hc with rfl | hc
          · rw [fr] at e; cases e
          · rw [fr] at hc; cases hc
      · obtain ⟨_, g1, _, g3, g4, g5⟩ := f2 b hb
        exact ⟨g3, g1, g4, g5⟩
    · refine wpAny_bind (wpAny_mono (T.item (cxE X nm scope G2.objs.size s2 H1 fp EB) rfl rfl rfl hcalmB i _ s3 _ H3 (fun _ _ => False) I3p (hfpB fr3) st3 go) (fun r s4 hr => ?_) fun _ _ z => z.elim)
      obtain ⟨u, hr, h4⟩ := hr
      subst hr
      dsimp only
      refine wpAny_bind (wpAny_mono h4 (fun _ s5 h5 => ?_) fun _ _ z => z.elim)
      obtain ⟨x, H5, I5, r5, y5, st5, fr5⟩ := h5
      have I5' := I5.pinned (hfpB fr5) (T.obj _ _ st5)
      refine wpAny_bind (wpAny_mono (hg _ _ _ _ _ _ s5 _ H5 x u _ I5' r5 (step x H5 y5 _ _ _ _ _ out)) (fun _ s6 h6 => ?_) fun _ _ z => hEB ▸ z)
      obtain ⟨σ6, H6, I6, q6⟩ := h6
      refine wpAny_bind (wpAny_tests_nil ?_)
      have back : ∀ {H8 : Hp} {s8 : Shared} {ys' : List V} {its' : List Value} {k' : Nat}, Inv (cxE X nm scope G2.objs.size s2 H1 fp EB) [] σ6 H8 s8 -> (∀ b ∈ fp, ∀ o, s5.heap.get? b = some o -> s8.heap.get? b = some o) -> (∀ b ∈ fp, H8 b = none) -> H8 s2.heap.objs.size = none ->
          Vals ys' its' -> s8.heap.get? s2.heap.objs.size = some { cls := .type "list", data := .seq its'.toArray k' } -> (∃ m', m' < n /\ W (i + 1) m' ys' H8) ->
          ∃ m, m < n /\ ∃ i ys H', Inv (cxE X nm scope G2.objs.size s2 H1 fp EB) [] (List.replicate nm.length none) H' s8 /\ tn i s8.heap /\ (∀ b ∈ fp, H' b = none) /\ H' s2.heap.objs.size = none /\
            (∃ its k, Vals ys its /\ s8.heap.get? s2.heap.objs.size = some { cls := .type "list", data := .seq its.toArray k }) /\ W i m ys H' :=
        fun {H8 s8 ys' its' k'} I8 kf f8 n8 rv8 e8 ⟨m', hm, w8⟩ => ⟨m', hm, i + 1, ys', H8, blank I8, T.keep _ _ _ st5 kf, f8, n8, ⟨its', k', rv8, e8⟩, w8⟩
      refine wpAny_bind (wpAny_bind (wpAny_mono (he _ _ _ _ _ _ s6 σ6 H6 _ I6 q6) (fun xv s8 h8 => ?_) fun _ _ z => hEB ▸ z))
      obtain ⟨y, H8, I8, r8, hzy, q8⟩ := h8
      have pa := I8.pin (s2.heap.objs.size, { cls := .type "list", data := .seq its.toArray ka }) (by simp)
      refine wpAny_bind (append_plain pa.1 (by rw [<- rv.length]; exact hzy) fun h' k' tk e9 sb => ?_)
      refine wpAny_pure (wpAny_pure ⟨rfl, ?_⟩)
      have I9 : Inv (cxE X nm scope G2.objs.size s2 H1 fp EB) [] σ6 H8 { s8 with heap := h', toks := tk } :=
        (Inv.pins_of (pins' := []) I8 fun p hp => absurd hp (by simp)).turned (it := s2.heap.objs.size) (fun b o hb e => sb b o hb e) pa.2.1 hDC (.inr (Nat.le_refl _)) (fun x c hx z => by
          cases hx) (fun p hp => absurd hp (by simp))
      refine back I9 (fun b hb o e => ?_) (fun b hb => ?_) pa.2.1 (rv.append (.cons r8 .nil)) e9 q8
      · exact sb b o (Nat.ne_of_lt (hfpn b hb)) (I8.pin (b, o) (List.mem_append_right _ (List.mem_append_right _ (mem_pinsAt hb e)))).1
      · obtain ⟨o, e, d⟩ := T.obj _ _ st5 b hb
        exact (I8.pin (b, o) (List.mem_append_right _ (List.mem_append_right _ (mem_pinsAt hb e)))).2.1
  exact codeAny_compStart_list (loop _ rfl) (T.self _ _ _ _ _ (T.keep _ _ _ st2 fun b _ o e => old b o e) (loop _ rfl))
end
open Classical in
noncomputable def compWE (f : FG) (el : FE) (ck : Option (Nat × List W)) (ρ0 : EnvW) : List W -> List W -> List Cell -> R (List W)
  | [], acc, st => if chkOk st ck then .ok acc st else .bad
  | w :: ws, acc, st => if chkOk st ck then (match f w ρ0 with
    | none => .bad
    | some ρ' => (match el ρ' st with
      | .ok y st2 => compWE f el ck ρ0 ws (acc ++ [y]) st2
      | .ex c st2 => .ex c st2
      | .bad => .bad)) else .bad
noncomputable def eCompE (n : Nat) (fi : FI) (f : FG) (el : FE) : FE := fun ρ st => (fi ρ st).bind fun k st => if k.1.length <= LIM then (compWE f el k.2 (List.replicate n none) k.1 [] st).bind fun ys st => mkLst ys st else .bad
theorem envR_none {K : PySem.W.Frag} {μ : List Addr} {H : Hp} : ∀ n : Nat, Paired (fun (o : Option W) (s : Option V) => ∀ w, o = some w -> ∃ v, s = some v /\ RelW K μ H w v) (List.replicate n none) (List.replicate n none)
  | 0 => .nil
  | n + 1 => .cons (fun w e => by cases e) (envR_none n)
theorem comp_tE {X : Cx} {nm : List Str} {scope : Scope} {fi : FI} {f : FG} {el : FE} {σ : St} {H : Hp} {Q : VK} (h : tE X (eCompE nm.length fi f el) σ H Q) :
    tCompE X nm scope (fun σ H R => tG X (relI X) fi σ H R) (tTg X f) (fun XB => tE XB el) σ H Q := by
  obtain ⟨μ, ρ, st, l, h⟩ := h
  refine ⟨μ, ρ, st, l, RK.bind h l fun μ1 st1 k J H1 p1 x1 l1 wk h1 => ?_⟩
  by_cases hz : k.1.length <= LIM
  · rw [if_pos hz] at h1
    refine ⟨fun i m ys H' => i <= k.1.length /\ m = k.1.length - i /\ ys.length <= i /\ ∃ μ' acc st', μ1 <+: μ' /\ Ext X.K H1 H' /\ Rl X μ' ρ st' σ H' /\ RelWs X.K μ' H' acc ys /\ RK X (relW X) μ' σ H' Q ((compWE f el k.2 (List.replicate nm.length none) (k.1.drop i) acc st').bind fun ys st => mkLst ys st),
      ⟨_, Nat.zero_le _, rfl, Nat.le_refl _, μ1, [], st1, List.prefix_refl _, Ext.refl, l1, .nilI, h1⟩, ?_⟩
    rintro i m ys H' ⟨hi, rfl, hy, μ', acc, st', pm, xm, lm, ra, hm⟩
    by_cases hlt : i < k.1.length
    · rw [List.drop_eq_getElem_cons hlt] at hm
      unfold compWE at hm
      by_cases ck : chkOk st' k.2
      · rw [if_pos ck] at hm
        obtain ⟨go, yld⟩ := (wk i μ' st' H' pm xm lm.sto ck).1 _ (List.getElem?_eq_getElem hlt)
        refine .inr ⟨go, fun x H2 hy2 C s0 H0 fp E out => ?_⟩
        obtain ⟨y1, y2, y3⟩ := yld x H2 hy2
        cases hf : f k.1[i] (List.replicate nm.length none) with
        | none => rw [hf] at hm; exact hm.elim
        | some ρ2 =>
          rw [hf] at hm
          simp only at hm
          have lb : Rl X μ' (List.replicate nm.length none) st' (List.replicate nm.length none) H2 := ⟨envR_none _, y2⟩
          refine ⟨μ', List.replicate nm.length none, st', k.1[i], ρ2, lb, y3, hf, fun σ2 l2 => ?_⟩
          refine ⟨μ', ρ2, st', ⟨l2.env, l2.sto⟩, ?_⟩
          cases he : el ρ2 st' with
          | bad => rw [he] at hm; exact hm.elim
          | ex c st3 =>
            rw [he] at hm
            exact fun pins2 μ3 H3 e s' p3 x3 S3 fl => out pins2 σ2 c H3 e s' fl fun pins0 e' s'' fX => hm pins0 μ3 H3 e' s'' p3 (y1.trans x3) S3 fX
          | ok w st3 =>
            rw [he] at hm
            intro μ4 b4 H4 p4 x4 S4 q4
            have xx := y1.trans x4
            exact ⟨Nat.lt_of_le_of_lt hy (Nat.lt_of_lt_of_le hlt (lim_le hz)), _, by omega, hlt, rfl, by simp; omega, μ4, acc ++ [w], st3, pm.trans p4, xm.trans xx, lm.to p4 xx S4, (ra.mono p4 xx).app (.consI q4 .nilI), RK.mono hm p4 xx⟩
      · rw [if_neg ck] at hm; exact hm.elim
    · have hi' : i = k.1.length := by omega
      subst hi'
      rw [List.drop_of_length_le (Nat.le_refl _)] at hm
      unfold compWE at hm
      by_cases ck : chkOk st' k.2
      · rw [if_pos ck] at hm
        obtain ⟨z1, z2⟩ := mkLst_ok lm.sto ra hm
        exact .inl ⟨(wk _ μ' st' H' pm xm lm.sto ck).2 (Nat.le_refl _), z1, fun p hp => z2 p _ hp rfl⟩
      · rw [if_neg ck] at hm; exact hm.elim
  · rw [if_neg hz] at h1; exact h1.elim
section
variable {X : Cx} {elt tg iter : Expr} {scope : Scope} {pos : Pos} {nm : List Str} {fi : FI} {f : FG} {el : FE}
theorem s_compE (hB : noB scope.names = true) (hi : SI X tg iter fi) (hg : ∀ C s0 H0 fp E, SG (cxE X nm scope C s0 H0 fp E) tg f)
    (he : ∀ C s0 H0 fp E, SE (cxE X nm scope C s0 H0 fp E) elt el) (hcalm : X.calm = true := by rfl) (hkind : scope.kind = .function := by rfl) (hst : X.stack = X.env :: X.outer := by rfl) (hfr : X.env.frame = some X.env.locals := by rfl) (hs : ∀ x, foldedSetIterable iter X.env x = pure x := by intro _; rfl) :
    SE X (.ListComp elt [⟨tg, iter, [], 0⟩] scope pos) (eCompE nm.length fi f el) :=
  ⟨(pe_compE (nm := nm) (te := fun XB => tE XB el) hcalm hkind hB hst hfr hi.h (fun C s0 H0 fp E => (qg0 (X := X) (X' := cxE X nm scope C s0 H0 fp E) rfl rfl (hg C s0 H0 fp E)).h) (fun C s0 H0 fp E => (he C s0 H0 fp E).h) hs).imp fun _ _ _ h => comp_tE h⟩
end
end L2
set_option Elab.async false
set_option linter.all false
set_option maxRecDepth 100000
set_option maxHeartbeats 4000000
namespace L2
open PySem PySem.Spec PyProof.Rows
theorem cell_at (st x : List Cell) (k : Nat) : (st ++ x)[st.length + k]? = x[k]? := by rw [List.getElem?_append_right (by omega)]; congr 1; omega
theorem cell_at0 (st x : List Cell) : (st ++ x)[st.length]? = x[0]? := cell_at st x 0
theorem cell_set (st x : List Cell) (k : Nat) (c : Cell) : (st ++ x).set (st.length + k) c = st ++ x.set k c := by rw [List.set_append_right _ _ (by omega)]; congr 2; omega
theorem cell_set0 (st x : List Cell) (c : Cell) : (st ++ x).set st.length c = st ++ x.set 0 c := cell_set st x 0 c
theorem cell_old {st x : List Cell} {n : Nat} {c : Cell} (h : st[n]? = some c) : (st ++ x)[n]? = some c := by
  rw [List.getElem?_append_left (List.getElem?_eq_some_iff.mp h).1]; exact h
theorem trunc_self (st : List Cell) (ws : List W) : trunc st st ws = st := by unfold trunc; split <;> simp
theorem trunc_app {st x : List Cell} {ws : List W} (h : undWs st.length ws = true) : trunc st (st ++ x) ws = st := by
  unfold trunc
  rw [if_pos ⟨h, by simp, fun i hi => .inl (List.getElem?_append_left hi)⟩]
  simp
theorem trunc_new {st st' : List Cell} {ws : List W} (h : undWs st.length ws = false) : trunc st st' ws = st' := by
  unfold trunc
  rw [if_neg fun k => by have := k.1; rw [h] at this; cases this]
theorem runF_rt {N : Nat} {body : FS} {ws : List W} {st st' : List Cell} {w : W} (h : body (ws.map some ++ List.replicate (N - ws.length) none) st = .rt w st') : runF N body ws st = .ok w (trunc st st' [w]) := by
  unfold runF; rw [h]
theorem runF_self {N : Nat} {body : FS} {ws : List W} {st : List Cell} {w : W} (h : body (ws.map some ++ List.replicate (N - ws.length) none) st = .rt w st) : runF N body ws st = .ok w st := by
  rw [runF_rt h, trunc_self]
theorem runF_app {N : Nat} {body : FS} {ws : List W} {st x : List Cell} {w : W} (h : body (ws.map some ++ List.replicate (N - ws.length) none) st = .rt w (st ++ x)) (hu : undWs st.length [w] = true) : runF N body ws st = .ok w st := by
  rw [runF_rt h, trunc_app hu]
theorem runF_new {N : Nat} {body : FS} {ws : List W} {st x : List Cell} {k : Nat} (h : body (ws.map some ++ List.replicate (N - ws.length) none) st = .rt (.loc (st.length + k)) (st ++ x)) : runF N body ws st = .ok (.loc (st.length + k)) (st ++ x) := by
  rw [runF_rt h, trunc_new (by simp [undWs, W.und])]
theorem seq_nx {g g' : FS} {ρ ρ' : EnvW} {st st' : List Cell} (h : g ρ st = .nx ρ' st') : xSeq g g' ρ st = g' ρ' st' := by unfold xSeq; rw [h]
theorem xFor_nx {fi : FI} {f : FG} {body : FS} {ρ : EnvW} {st st' : List Cell} {k : Walk} (h : fi ρ st = .ok k st') : xFor fi f body ρ st = forW f body k.2 k.1 ρ st' := by unfold xFor; rw [h]; rfl
theorem forW_inv {f : FG} {body : FS} {ck : Option (Nat × List W)} (I : Nat -> EnvW -> List Cell -> Prop) : ∀ {ws : List W} {ρ : EnvW} {st : List Cell} (i0 : Nat), I i0 ρ st -> (∀ i ρ st, I i ρ st -> chkOk st ck) ->
    (∀ i w ρ st, ws[i]? = some w -> I (i0 + i) ρ st -> ∃ ρ' ρ2 st2, f w ρ = some ρ' /\ body ρ' st = .nx ρ2 st2 /\ I (i0 + i + 1) ρ2 st2) ->
    ∃ ρ2 st2, forW f body ck ws ρ st = .nx ρ2 st2 /\ I (i0 + ws.length) ρ2 st2
  | [], ρ, st, i0, h0, hc, hs => ⟨ρ, st, by unfold forW; rw [if_pos (hc _ _ _ h0)], h0⟩
  | w :: ws, ρ, st, i0, h0, hc, hs => by
    obtain ⟨ρ', ρ2, st2, e1, e2, h1⟩ := hs 0 w ρ st rfl h0
    obtain ⟨ρ3, st3, e3, h3⟩ := forW_inv I (ws := ws) (ρ := ρ2) (st := st2) (i0 + 1) h1 hc fun i w ρ st hw hI => by
      obtain ⟨a, b, c, d, e, g⟩ := hs (i + 1) w ρ st (by simpa using hw) (by rw [show i0 + (i + 1) = i0 + 1 + i by omega]; exact hI)
      exact ⟨a, b, c, d, e, by rw [show i0 + 1 + i + 1 = i0 + (i + 1) + 1 by omega]; exact g⟩
    refine ⟨ρ3, st3, ?_, by rw [List.length_cons, show i0 + (ws.length + 1) = i0 + 1 + ws.length by omega]; exact h3⟩
    unfold forW
    rw [if_pos (hc _ _ _ h0), e1]
    simp only [e2]
    exact e3
theorem while_inv {t : FT} {g : FS} (I : Nat -> EnvW -> List Cell -> Prop) : ∀ (n : Nat) {ρ : EnvW} {st : List Cell}, I n ρ st ->
    (∀ n ρ st, I n ρ st -> t ρ st = .ok false st \/ (t ρ st = .ok true st /\ ∃ ρ2 st2 m, g ρ st = .nx ρ2 st2 /\ m < n /\ I m ρ2 st2)) ->
    ∃ m ρ2 st2, xWhile t g ρ st = .nx ρ2 st2 /\ I m ρ2 st2 /\ t ρ2 st2 = .ok false st2 := by
  intro n ρ st h hs
  have key : ∀ (k n : Nat) (ρ : EnvW) (st : List Cell), n < k -> I n ρ st -> ∃ m ρ2 st2, whileW t g k ρ st = .nx ρ2 st2 /\ I m ρ2 st2 /\ t ρ2 st2 = .ok false st2 := by
    intro k
    induction k with
    | zero => intro n _ _ h; exact absurd h (Nat.not_lt_zero _)
    | succ k ih =>
      intro n ρ st hk hI
      rcases hs n ρ st hI with e | ⟨e, ρ2, st2, m, e2, hm, h2⟩
      · exact ⟨n, ρ, st, by unfold whileW; rw [e]; rfl, hI, e⟩
      · obtain ⟨m', ρ3, st3, e3, h3⟩ := ih m ρ2 st2 (by omega) h2
        exact ⟨m', ρ3, st3, by unfold whileW; rw [e]; simp only [R.stmt_ok, if_true, e2]; exact e3, h3⟩
  obtain ⟨m, ρ2, st2, e, h2⟩ := key (n + 1) n ρ st (Nat.lt_succ_self n) h
  exact ⟨m, ρ2, st2, xWhile_eq e (by simp), h2⟩
def isS (l : List Nat) : W -> Bool
  | .str m => m == l
  | _ => false
def Gd : W -> Prop
  | .str l => l.length <= LIM
  | .tup ws => True
  | _ => False
theorem eq_S {x : W} (h : Gd x) (l : List Nat) (st : List Cell) : wEq x (.str l) st = .ok (.bl (isS l x)) st := by
  cases x with
  | str m => simp [wEq, eqW, W.dep, isS]
  | tup ws => simp [wEq, eqW, isS, W.dep]
  | _ => exact h.elim
def inS (ls : List (List Nat)) (x : W) : Bool := ls.any fun l => isS l x
theorem any_S {x : W} (h : Gd x) : ∀ ls : List (List Nat), anyW x (ls.map W.str) = some (inS ls x)
  | [] => rfl
  | l :: ls => by
    simp only [List.map, anyW, any_S h ls, inS, List.any_cons]
    cases x with
    | str m =>
      have e : (l == m) = (m == l) := by rw [Bool.eq_iff_iff, beq_iff_eq, beq_iff_eq]; exact eq_comm
      simp only [eqW, isS, e]
    | tup ws => simp [eqW, isS]
    | _ => exact h.elim
theorem dep_S : ∀ ls : List (List Nat), depWs (ls.map W.str) = 0
  | [] => rfl
  | l :: ls => by simp only [List.map, depWs, W.dep, dep_S ls]; rfl
theorem in_S {x : W} (h : Gd x) (neg : Bool) (ls : List (List Nat)) (st : List Cell) : wIn neg x (.tup (ls.map W.str)) st = .ok (.bl (if neg then !inS ls x else inS ls x)) st := by
  simp [wIn, any_S h, dep_S]
section
variable {ρ ρ' : EnvW} {st st1 st2 st3 st4 : List Cell} {fa fb fe fo fi : FE} {fs : FA} {t u : FT} {x y z w v : W} {ws xs zs : List W} {i j n m : Nat} {a b k : Bool} {g g' : FS}
theorem k_var (h : ρ[i]? = some (some w)) : eVar i ρ st = .ok w st := by unfold eVar; rw [h]
theorem k_C : eC w ρ st = .ok w st := rfl
theorem k_2 {f : W -> W -> List Cell -> R W} (h1 : fa ρ st = .ok x st1) (h2 : fb ρ st1 = .ok y st2) (h3 : f x y st2 = .ok z st3) : e2 f fa fb ρ st = .ok z st3 := by unfold e2; rw [h1]; simp only [R.bind_ok]; rw [h2]; exact h3
theorem k_nil : aNil ρ st = .ok [] st := rfl
theorem k_cons (h1 : fa ρ st = .ok x st1) (h2 : fs ρ st1 = .ok xs st2) : aCons fa fs ρ st = .ok (x :: xs) st2 := by unfold aCons; rw [h1]; simp only [R.bind_ok]; rw [h2]; rfl
theorem k_strs {ls : List (List Nat)} : wStrs ls ρ st = .ok (ls.map W.str) st := rfl
theorem k_tup (h1 : fs ρ st = .ok ws st1) (h2 : ws.length <= LIM) : eTup fs ρ st = .ok (.tup ws) st1 := by unfold eTup; rw [h1]; simp only [R.bind_ok, mkTup]; rw [if_pos h2]
theorem k_lst (h1 : fs ρ st = .ok ws st1) (h2 : ws.length <= LIM) : eLst fs ρ st = .ok (.loc st1.length) (st1 ++ [.lst ws]) := by unfold eLst; rw [h1]; simp only [R.bind_ok, mkLst]; rw [if_pos h2]
theorem k_call {F : List W -> List Cell -> R W} (h1 : fs ρ st = .ok ws st1) (h2 : F ws st1 = .ok w st2) : eCall F fs ρ st = .ok w st2 := by unfold eCall; rw [h1]; exact h2
theorem k_def {F : List W -> List Cell -> R W} (h1 : fs ρ st = .ok ws st1) (h2 : F ws st1 = .ok w st2) (hn : ws.length = n) : eDef n F fs ρ st = .ok w st2 := by unfold eDef; rw [h1]; simp only [R.bind_ok]; rw [if_pos hn]; exact h2
theorem k_asB (h : fa ρ st = .ok (.bl k) st1) : asB fa ρ st = .ok k st1 := by unfold asB; rw [h]; rfl
theorem k_bnd_t (h1 : t ρ st = .ok true st1) (h2 : u ρ st1 = .ok k st2) : bnd t u ρ st = .ok k st2 := by unfold bnd; rw [h1]; exact h2
theorem k_bnd_f (h1 : t ρ st = .ok false st1) : bnd t u ρ st = .ok false st1 := by unfold bnd; rw [h1]; rfl
theorem k_bor_f (h1 : t ρ st = .ok false st1) (h2 : u ρ st1 = .ok k st2) : bor t u ρ st = .ok k st2 := by unfold bor; rw [h1]; exact h2
theorem k_bor_t (h1 : t ρ st = .ok true st1) : bor t u ρ st = .ok true st1 := by unfold bor; rw [h1]; rfl
theorem k_bnt (h1 : t ρ st = .ok a st1) (h2 : (!a) = k) : bnt t ρ st = .ok k st1 := by unfold bnt; rw [h1, <- h2]; rfl
theorem k_and_t (h1 : fa ρ st = .ok (.bl true) st1) (h2 : fb ρ st1 = .ok w st2) : eAnd fa fb ρ st = .ok w st2 := by unfold eAnd; rw [h1]; exact h2
theorem k_and_f (h1 : fa ρ st = .ok (.bl false) st1) : eAnd fa fb ρ st = .ok (.bl false) st1 := by unfold eAnd; rw [h1]; rfl
theorem k_or_f (h1 : fa ρ st = .ok (.bl false) st1) (h2 : fb ρ st1 = .ok w st2) : eOr fa fb ρ st = .ok w st2 := by unfold eOr; rw [h1]; exact h2
theorem k_or_t (h1 : fa ρ st = .ok (.bl true) st1) : eOr fa fb ρ st = .ok (.bl true) st1 := by unfold eOr; rw [h1]; rfl
theorem k_not (h1 : fa ρ st = .ok (.bl a) st1) (h2 : (!a) = k) : eNot fa ρ st = .ok (.bl k) st1 := by unfold eNot; rw [h1, <- h2]; rfl
theorem k_ml {F : W -> List W -> List Cell -> R W} (h1 : fo ρ st = .ok x st1) (hl : isLst st1 x = true) (h2 : fs ρ st1 = .ok ws st2) (h3 : F x ws st2 = .ok w st3) : eML F fo fs ρ st = .ok w st3 := by unfold eML; rw [h1]; simp only [R.bind_ok]; rw [if_pos hl, h2]; exact h3
theorem k_ms {F : W -> List W -> List Cell -> R W} (h1 : fo ρ st = .ok x st1) (hl : isStr x = true) (h2 : fs ρ st1 = .ok ws st2) (h3 : F x ws st2 = .ok w st3) : eMS F fo fs ρ st = .ok w st3 := by unfold eMS; rw [h1]; simp only [R.bind_ok]; rw [if_pos hl, h2]; exact h3
theorem k_isLst (h : st[n]? = some (.lst ws)) : isLst st (.loc n) = true := by simp only [isLst, h]
theorem k_neg {q : Int} (h : fa ρ st = .ok (.int q) st1) : eNeg fa ρ st = .ok (.int (-q)) st1 := by unfold eNeg; rw [h]; rfl
theorem k_isT {T c : String} (h : fa ρ st = .ok x st1) (hx : x.ty = some c) (hk : isiT c T = k) : eIsT T fa ρ st = .ok (.bl k) st1 := by unfold eIsT; rw [h]; simp only [R.bind_ok, hx, hk]
theorem k_isN (h : fa ρ st = .ok x st1) (hk : x.isNon = k) : eIsN fa ρ st = .ok (.bl k) st1 := by unfold eIsN; rw [h, <- hk]; rfl
theorem k_notN (h : fa ρ st = .ok x st1) (hk : (!x.isNon) = k) : eNotN fa ρ st = .ok (.bl k) st1 := by unfold eNotN; rw [h, <- hk]; rfl
theorem k_oN : oNone ρ st = .ok none st := rfl
theorem k_oS {q : Int} (h : fa ρ st = .ok (.int q) st1) : oSome fa ρ st = .ok (some q) st1 := by unfold oSome; rw [h]; rfl
theorem k_sl {fl fh : FO} {l h : Option Int} (h1 : fa ρ st = .ok x st1) (h2 : fl ρ st1 = .ok l st2) (h3 : fh ρ st2 = .ok h st3) (h4 : wSl x l h st3 = .ok w st4) : eSl fa fl fh ρ st = .ok w st4 := by unfold eSl; rw [h1]; simp only [R.bind_ok]; rw [h2]; simp only [R.bind_ok]; rw [h3]; exact h4
theorem k_set (h : fe ρ st = .ok w st1) : xSet i fe ρ st = .nx (ρ.set i (some w)) st1 := by unfold xSet; rw [h]; rfl
theorem k_expr (h : fe ρ st = .ok w st1) : xExpr fe ρ st = .nx ρ st1 := by unfold xExpr; rw [h]; rfl
theorem k_ret (h : fe ρ st = .ok w st1) : xRet fe ρ st = .rt w st1 := by unfold xRet; rw [h]; rfl
theorem k_put {f : W -> W -> W -> List Cell -> Option (List Cell)} (h1 : fe ρ st = .ok v st1) (h2 : fo ρ st1 = .ok x st2) (h3 : fi ρ st2 = .ok y st3) (h4 : f x y v st3 = some st4) : xPut fo fi fe f ρ st = .nx ρ st4 := by
  unfold xPut; rw [h1]; simp only [R.stmt_ok]; rw [h2]; simp only [R.stmt_ok]; rw [h3]; simp only [R.stmt_ok]; rw [h4]
theorem k_if_t {r : RS} (h1 : t ρ st = .ok true st1) (h2 : g ρ st1 = r) : xIf t g g' ρ st = r := by unfold xIf; rw [h1]; exact h2
theorem k_if_f {r : RS} (h1 : t ρ st = .ok false st1) (h2 : g' ρ st1 = r) : xIf t g g' ρ st = r := by unfold xIf; rw [h1]; exact h2
theorem k_next : xNext ρ st = .nx ρ st := rfl
theorem k_seq {r : RS} (h : g ρ st = .nx ρ' st1) (h2 : g' ρ' st1 = r) : xSeq g g' ρ st = r := by rw [seq_nx h]; exact h2
theorem k_seqR (h : g ρ st = .rt w st1) : xSeq g g' ρ st = .rt w st1 := by unfold xSeq; rw [h]
theorem o_addI {p q : Int} : wAdd (.int p) (.int q) st = .ok (.int (p + q)) st := rfl
theorem o_addS {p q : List Nat} (h : p.length + q.length <= LIM) : wAdd (.str p) (.str q) st = .ok (.str (p ++ q)) st := by simp only [wAdd]; rw [if_pos h]
theorem o_addL (h1 : st[n]? = some (.lst ws)) (h2 : st[m]? = some (.lst xs)) (h : (ws ++ xs).length <= LIM) : wAdd (.loc n) (.loc m) st = .ok (.loc st.length) (st ++ [.lst (ws ++ xs)]) := by
  unfold wAdd; simp only [h1, h2, mkLst]; rw [if_pos h]
theorem o_II {C : Int -> Int -> Prop} [∀ i j, Decidable (C i j)] {f : Int -> Int -> Int} {p q : Int} (h : C p q) : wII C f (.int p) (.int q) st = .ok (.int (f p q)) st := by simp only [wII]; rw [if_pos h]
theorem o_mulI {p q : Int} (h : cMul p q) : wMulA (.int p) (.int q) st = .ok (.int (p * q)) st := by simp only [wMulA]; rw [if_pos h]
theorem o_cmp {f : Int -> Int -> Bool} {p q : Int} (h : f p q = k) : wCmp f (.int p) (.int q) st = .ok (.bl k) st := by rw [<- h]; rfl
theorem o_leI {p q : Int} (h : decide (p <= q) = k) : wLeD (.int p) (.int q) st = .ok (.bl k) st := by rw [<- h]; rfl
theorem o_eqI {p q : Int} (h : (p == q) = k) : wEq (.int p) (.int q) st = .ok (.bl k) st := by rw [<- h]; rfl
theorem o_neI {p q : Int} (h : (!(p == q)) = k) : wNe (.int p) (.int q) st = .ok (.bl k) st := by rw [<- h]; rfl
theorem o_eqS {p q : List Nat} (h : (p == q) = k) : wEq (.str p) (.str q) st = .ok (.bl k) st := by rw [<- h]; rfl
theorem o_ixT {q : Int} (h : atI ws q = some w) : wIx (.tup ws) (.int q) st = .ok w st := by unfold wIx; simp only [h, ofO_some]
theorem o_ixS {l : List Nat} {q : Int} {c : Nat} (hl : l.length <= LIM) (h : atI l q = some c) : wIx (.str l) (.int q) st = .ok (.str [c]) st := by unfold wIx; simp only [h, ofO_some]; rw [if_pos hl]
theorem o_ixL {q : Int} (hl : lstOf st n = some ws) (h : atI ws q = some w) : wIx (.loc n) (.int q) st = .ok w st := by unfold wIx; simp only [hl, h, ofO_some]
theorem o_lenT : bLen [.tup ws] st = .ok (.int ws.length) st := rfl
theorem o_lenS {l : List Nat} (h : l.length <= LIM) : bLen [.str l] st = .ok (.int l.length) st := by unfold bLen; simp only; rw [if_pos h]
theorem o_lenL (hl : lstOf st n = some ws) : bLen [.loc n] st = .ok (.int ws.length) st := by unfold bLen; simp only [hl, ofO_some]
theorem lstOf_l (h : st[n]? = some (.lst ws)) : lstOf st n = some ws := by unfold lstOf; rw [h]
theorem lstOf_r (h : st[n]? = some (.ro ws)) : lstOf st n = some ws := by unfold lstOf; rw [h]
theorem o_app (h : st[n]? = some (.lst ws)) (hl : ws.length < LIM) : mAppend (.loc n) [y] st = .ok .non (st.set n (.lst (ws ++ [y]))) := by unfold mAppend; simp only [h]; rw [if_pos hl]
theorem o_putL {q : Int} (h : st[n]? = some (.lst ws)) (hi : ixN ws.length q = some j) : wSetL (.loc n) (.int q) v st = some (st.set n (.lst (ws.set j v))) := by unfold wSetL; simp only [h, hi]; rfl
theorem o_split {l : List Nat} {c : Nat} (h : l.length + 2 <= LIM) : mSplit (.str l) [.str [c]] st = .ok (.loc st.length) (st ++ [.lst ((splitN c l).map W.str)]) := by unfold mSplit; simp only; rw [if_pos h]
theorem o_join {sep : List Nat} {ls : List (List Nat)} (h : lstOf st n = some (ls.map W.str)) (hl : (ls.map List.length).sum + ls.length * sep.length <= LIM) : mJoin (.str sep) [.loc n] st = .ok (.str (joinN sep ls)) st := by
  unfold mJoin; simp only [h, ofO_some, strs?_map]; rw [if_pos hl]
theorem o_slS {l h : Option Int} {z : List Nat} (hl : z.length <= LIM) : wSl (.str z) l h st = .ok (.str (cutW z l h)) st := by unfold wSl; simp only; rw [if_pos hl]
theorem o_slT {l h : Option Int} : wSl (.tup ws) l h st = .ok (.tup (cutW ws l h)) st := rfl
theorem i_any_t (h : fe ρ st = .ok (.tup ws) st1) : itAny fe ρ st = .ok (ws, none) st1 := by unfold itAny; rw [h]; rfl
theorem i_any_l (h : fe ρ st = .ok (.loc n) st1) (hl : lstOf st1 n = some ws) : itAny fe ρ st = .ok (ws, some (n, ws)) st1 := by unfold itAny; rw [h]; simp only [R.bind_ok, hl]
theorem i_range1 {q : Int} (h : fs ρ st = .ok [.int q] st1) (hq : -(2 ^ 62) <= q /\ q < 2 ^ 62) : itRange1 fs ρ st = .ok (rangeW 0 q.toNat, none) st1 := by unfold itRange1; rw [h]; simp only [R.bind_ok]; rw [if_pos hq]
theorem at_nat {α : Type} {l : List α} {q : Nat} {x : α} (h : l[q]? = some x) : atI l (q : Int) = some x := by
  have hq : q < l.length := (List.getElem?_eq_some_iff.mp h).1
  unfold atI ixN
  rw [if_pos (by omega), if_pos (by omega)]
  simpa using h
def Sat (P : RS -> Prop) (r : RS) : Prop := P r
def nxP (I : EnvW -> List Cell -> Prop) : RS -> Prop := fun r => ∃ ρ st, r = .nx ρ st /\ I ρ st
def rtP (I : W -> List Cell -> Prop) : RS -> Prop := fun r => ∃ w st, r = .rt w st /\ I w st
variable {P : RS -> Prop} {rest : FS}
theorem sat_eq {r r' : RS} (h : r = r') (h2 : P r') : Sat P r := by rw [h]; exact h2
theorem sat_seq (h : g ρ st = .nx ρ' st1) (h2 : Sat P (g' ρ' st1)) : Sat P (xSeq g g' ρ st) := by rw [seq_nx h]; exact h2
theorem sat_t (h1 : t ρ st = .ok true st1) (h2 : Sat P (g ρ st1)) : Sat P (xIf t g g' ρ st) := by rw [k_if_t h1 rfl]; exact h2
theorem sat_f (h1 : t ρ st = .ok false st1) (h2 : Sat P (g' ρ st1)) : Sat P (xIf t g g' ρ st) := by rw [k_if_f h1 rfl]; exact h2
theorem sat_seq_t (h1 : t ρ st = .ok true st1) (h2 : Sat P (xSeq g rest ρ st1)) : Sat P (xSeq (xIf t g g') rest ρ st) := by
  unfold xSeq at h2 ⊢; rw [k_if_t h1 rfl]; exact h2
theorem sat_seq_f (h1 : t ρ st = .ok false st1) (h2 : Sat P (xSeq g' rest ρ st1)) : Sat P (xSeq (xIf t g g') rest ρ st) := by
  unfold xSeq at h2 ⊢; rw [k_if_f h1 rfl]; exact h2
theorem sat_assoc {h : FS} (h2 : Sat P (xSeq g (xSeq g' h) ρ st)) : Sat P (xSeq (xSeq g g') h ρ st) := by
  unfold xSeq at h2 ⊢
  cases e : g ρ st <;> simp only [e] at h2 ⊢ <;> exact h2
theorem sat_next (h2 : Sat P (rest ρ st)) : Sat P (xSeq xNext rest ρ st) := h2
theorem sat_ret (h : fe ρ st = .ok w st1) (h2 : P (.rt w st1)) : Sat P (xRet fe ρ st) := by rw [k_ret h]; exact h2
theorem sat_seq_ret (h : fe ρ st = .ok w st1) (h2 : P (.rt w st1)) : Sat P (xSeq (xRet fe) rest ρ st) := by rw [k_seqR (k_ret h)]; exact h2
theorem sat_for {fi : FI} {f : FG} {body : FS} {k : Walk} (I : Nat -> EnvW -> List Cell -> Prop) (h : fi ρ st = .ok k st1) (h0 : I 0 ρ st1) (hc : ∀ i ρ st, I i ρ st -> chkOk st k.2)
    (hs : ∀ i w ρ st, k.1[i]? = some w -> I i ρ st -> ∃ ρ', f w ρ = some ρ' /\ Sat (nxP (I (i + 1))) (body ρ' st)) (he : ∀ ρ st, I k.1.length ρ st -> Sat P (rest ρ st)) : Sat P (xSeq (xFor fi f body) rest ρ st) := by
  obtain ⟨ρ2, st2, e, h2⟩ := forW_inv (f := f) (body := body) (ck := k.2) I (ws := k.1) (ρ := ρ) (st := st1) 0 h0 hc fun i w ρ st hw hI => by
    rw [Nat.zero_add] at hI ⊢
    obtain ⟨ρ', e1, ρ2, st2, e2, h2⟩ := hs i w ρ st hw hI
    exact ⟨ρ', ρ2, st2, e1, e2, h2⟩
  rw [Nat.zero_add] at h2
  exact sat_seq (by rw [xFor_nx h]; exact e) (he _ _ h2)
theorem sat_while {body : FS} (I : Nat -> EnvW -> List Cell -> Prop) (n : Nat) (h0 : I n ρ st)
    (hs : ∀ n ρ st, I n ρ st -> t ρ st = .ok false st \/ (t ρ st = .ok true st /\ Sat (nxP fun ρ2 st2 => ∃ m, m < n /\ I m ρ2 st2) (body ρ st))) (he : ∀ m ρ st, I m ρ st -> t ρ st = .ok false st -> Sat P (rest ρ st)) : Sat P (xSeq (xWhile t body) rest ρ st) := by
  obtain ⟨m, ρ2, st2, e, h2, h3⟩ := while_inv (t := t) (g := body) I n h0 fun n ρ st hI => by
    rcases hs n ρ st hI with e | ⟨e, ρ2, st2, e2, m, hm, h2⟩
    · exact .inl e
    · exact .inr ⟨e, ρ2, st2, m, e2, hm, h2⟩
  exact sat_seq e (he _ _ _ h2 h3)
theorem run_val {N : Nat} {body : FS} {Q : W -> Prop} (h : Sat (rtP fun w st' => (∃ x, st' = st ++ x) /\ undWs st.length [w] = true /\ Q w) (body (ws.map some ++ List.replicate (N - ws.length) none) st)) : ∃ w, Q w /\ runF N body ws st = .ok w st := by
  obtain ⟨w, st', e, ⟨x, rfl⟩, hu, q⟩ := h
  exact ⟨w, q, runF_app e hu⟩
theorem run_is {N : Nat} {body : FS} (h : Sat (rtP fun w' st' => w' = w /\ ∃ x, st' = st ++ x) (body (ws.map some ++ List.replicate (N - ws.length) none) st)) (hu : undWs st.length [w] = true) : runF N body ws st = .ok w st := by
  obtain ⟨w, st', e, rfl, x, rfl⟩ := h
  exact runF_app e hu
theorem run_new {N : Nat} {body : FS} {Q : Nat -> List Cell -> Prop} (h : Sat (rtP fun w st' => ∃ j x, w = .loc (st.length + j) /\ st' = st ++ x /\ Q j x) (body (ws.map some ++ List.replicate (N - ws.length) none) st)) : ∃ j x, Q j x /\ runF N body ws st = .ok (.loc (st.length + j)) (st ++ x) := by
  obtain ⟨w, st', e, j, x, rfl, rfl, q⟩ := h
  exact ⟨j, x, q, runF_new e⟩
theorem rangeW_at {q i : Nat} {lo : Int} {w : W} (h : (rangeW lo q)[i]? = some w) : i < q /\ w = .int (lo + i) := by
  unfold rangeW at h
  obtain ⟨h1, h2⟩ := List.getElem?_eq_some_iff.mp h
  simp only [List.length_map, List.length_range] at h1
  exact ⟨h1, by rw [<- h2]; simp⟩
theorem cut_pre {α : Type} {l : List α} {q : Nat} (h : q <= l.length) : cutW l none (some (q : Int)) = l.take q := by
  unfold cutW; rw [HT.sIx_none, HT.sIx_nat, Nat.min_eq_left h]; simp
theorem cut_suf {α : Type} {l : List α} {q : Nat} (h : q <= l.length) : cutW l (some (q : Int)) none = l.drop q := by
  unfold cutW; rw [HT.sIx_none, HT.sIx_nat, Nat.min_eq_left h]; rw [List.take_of_length_le (by simp)]
theorem mod_nat {q : Int} {n : Nat} (h : 0 < n) : ∃ m : Nat, m < n /\ q % (n : Int) = m := by
  have h0 : 0 <= q % (n : Int) := Int.emod_nonneg _ (by omega)
  have h1 : q % (n : Int) < n := Int.emod_lt_of_pos _ (by omega)
  exact ⟨(q % (n : Int)).toNat, by omega, by omega⟩
end
section
variable {ρ : EnvW} {st st1 : List Cell} {t u : FT} {a b k : Bool} {P : RS -> Prop} {g g' rest : FS} {w : W} {ws : List W}
theorem k_bnd2 (h1 : t ρ st = .ok a st) (h2 : u ρ st = .ok b st) : bnd t u ρ st = .ok (a && b) st := by cases a; exact k_bnd_f h1; exact k_bnd_t h1 h2
theorem k_bor2 (h1 : t ρ st = .ok a st) (h2 : u ρ st = .ok b st) : bor t u ρ st = .ok (a || b) st := by cases a; exact k_bor_f h1 h2; exact k_bor_t h1
theorem k_bnt2 (h1 : t ρ st = .ok a st) : bnt t ρ st = .ok (!a) st := k_bnt h1 rfl
theorem run_self' {N : Nat} {body : FS} (h : Sat (rtP fun w' st' => w' = w /\ st' = st) (body (ws.map some ++ List.replicate (N - ws.length) none) st)) : runF N body ws st = .ok w st := by
  obtain ⟨w, st', e, rfl, rfl⟩ := h
  exact runF_self e
end
end L2
open L2
local macro_rules | `(tactic| walk_at "ev1") => `(tactic| first
  | (with_reducible apply k_var) <;> rfl
  | (with_reducible apply o_ixT) <;> rfl
  | with_reducible first
    | exact k_C | exact k_nil | exact k_strs | exact k_oN | exact o_addI | exact o_lenT | exact k_next | exact o_slT
    | apply k_2 | apply k_cons | apply k_tup | apply k_lst | apply k_call | apply k_def | apply k_asB | apply k_bnt | apply k_not
    | apply k_ml | apply k_ms | apply k_neg | apply k_isT | apply k_isN | apply k_notN | apply k_oS | apply k_sl | apply k_set | apply k_expr | apply k_ret | apply k_put
    | apply o_II | apply o_mulI | apply o_cmp | apply o_leI | apply o_eqI | apply o_neI | apply o_eqS | apply o_addS
  | decide
  | (show List.length _ <= LIM; exact Nat.le_of_ble_eq_true rfl)
  | (show @Eq Nat _ _; exact rfl)
  | (show @Eq Bool _ _; exact rfl)
  | (show @Eq (Option String) _ _; exact rfl)
  | (show @Eq _ _ _; with_reducible assumption))
local macro_rules | `(tactic| walk_at "evs") => `(tactic| repeat' walk_at "ev1")
local macro_rules | `(tactic| walk_at "tst") => `(tactic| first
  | (walk_at "evs"; done)
  | (apply k_bnd_f; (focus walk_at "tst"); done)
  | (apply k_bnd_t; (focus walk_at "tst"); (focus walk_at "tst"); done)
  | (apply k_bor_t; (focus walk_at "tst"); done)
  | (apply k_bor_f; (focus walk_at "tst"); (focus walk_at "tst"); done))
local macro_rules | `(tactic| walk_at "go1") => `(tactic| first
  | apply sat_next
  | (apply sat_seq_ret; (focus (walk_at "evs"; done)))
  | (apply sat_ret; (focus (walk_at "evs"; done)))
  | (apply sat_seq_t; (focus walk_at "tst"))
  | (apply sat_seq_f; (focus walk_at "tst"))
  | (apply sat_t; (focus walk_at "tst"))
  | (apply sat_f; (focus walk_at "tst"))
  | (apply sat_seq; (focus (walk_at "evs"; done))))
local macro_rules | `(tactic| walk_at "go") => `(tactic| repeat walk_at "go1")
local macro_rules | `(tactic| walk_at "tb") => `(tactic| repeat' (first | with_reducible apply k_bnd2 | with_reducible apply k_bor2 | with_reducible apply k_bnt2 | walk_at "ev1"))
local macro_rules | `(tactic| walk_at "len") => `(tactic| (simp only [List.length_append, List.length_cons, List.length_nil]; show _ <= 1000000; omega))
set_option Elab.async false
set_option linter.all false
set_option maxRecDepth 100000
set_option maxHeartbeats 4000000
namespace L2
open PySem PySem.Spec PyProof.Rows
section
variable {ρ ρ' ρ2 : EnvW} {st st1 st2 : List Cell} {fa fe : FE} {fs : FA} {g gh rest : FS} {ws : List W} {w : W} {n i : Nat} {c : Str} {cs : List Str} {P : RS -> Prop} {b : Bool}
def exP (c : Str) (I : List Cell -> Prop) : RS -> Prop := fun r => ∃ ρ st, r = .ex c ρ st /\ I st
theorem run_exc {N : Nat} {body : FS} (h : Sat (exP c fun st' => ∃ x, st' = st ++ x) (body (ws.map some ++ List.replicate (N - ws.length) none) st)) : runF N body ws st = .ex c st := by
  obtain ⟨ρ, st', e, x, rfl⟩ := h
  unfold runF
  rw [e]
  simp only [trunc_app (st := st) (x := x) (ws := []) rfl]
theorem k_def_ex {F : List W -> List Cell -> R W} (h1 : fs ρ st = .ok ws st1) (h2 : F ws st1 = .ex c st2) (hn : ws.length = n) : eDef n F fs ρ st = .ex c st2 := by unfold eDef; rw [h1]; simp only [R.bind_ok]; rw [if_pos hn]; exact h2
theorem k_set_ex (h : fe ρ st = .ex c st1) : xSet i fe ρ st = .ex c ρ st1 := by unfold xSet; rw [h]; rfl
theorem sat_seq_ex (h : g ρ st = .ex c ρ' st1) (h2 : P (.ex c ρ' st1)) : Sat P (xSeq g rest ρ st) := by unfold xSeq; rw [h]; exact h2
theorem k_try_ok (h : g ρ st = .nx ρ' st1) : xTry g cs i gh ρ st = .nx ρ' st1 := by unfold xTry; rw [h]
theorem k_isE {f : Str -> Option Bool} (h : fa ρ st = .ok (.loc n) st1) (hc : st1[n]? = some (.exc c)) (hf : f c = some b) : eIsE f fa ρ st = .ok (.bl b) st1 := by
  unfold eIsE; rw [h]; simp only [R.bind_ok, hc, hf]
theorem o_eqB {p q : Bool} (h : (p == q) = b) : wEq (.bl p) (.bl q) st = .ok (.bl b) st := by rw [<- h]; rfl
theorem sat_cut (I : EnvW -> List Cell -> Prop) (h : Sat (nxP I) (g ρ st)) (h2 : ∀ ρ st, I ρ st -> Sat P (rest ρ st)) : Sat P (xSeq g rest ρ st) := by
  obtain ⟨ρ', st', e, hi⟩ := h
  exact sat_seq e (h2 _ _ hi)
end
end L2
set_option Elab.async false
set_option linter.all false
set_option maxRecDepth 100000
set_option maxHeartbeats 4000000
namespace L2
open PySem PySem.Spec PyProof.Rows
section
variable {ρ : EnvW} {st st1 : List Cell} {fi : FI} {f : FG} {t : FT} {el : FE} {cap : List (Option Nat)}
theorem compW_eq {ck : Option (Nat × List W)} {ρ0 : EnvW} (hc : chkOk st ck) (T : W -> Bool) (Y : W -> W) : ∀ (ws acc : List W), (∀ w ∈ ws, ∃ ρ', f w ρ0 = some ρ' /\ t ρ' st = .ok (T w) st /\ (T w = true -> el ρ' st = .ok (Y w) st)) ->
    compW f t el ck ρ0 ws acc st = .ok (acc ++ (ws.filter T).map Y) st
  | [], acc, _ => by unfold compW; rw [if_pos hc]; simp
  | w :: ws, acc, h => by
    obtain ⟨ρ', e1, e2, e3⟩ := h w (by simp)
    have ih := fun acc => compW_eq hc T Y ws acc fun w' hw' => h w' (by simp [hw'])
    unfold compW
    rw [if_pos hc, e1]
    simp only [e2]
    cases hT : T w with
    | true =>
      simp only [e3 hT]
      rw [ih]
      simp [List.filter_cons, hT]
    | false =>
      simp only
      rw [ih]
      simp [List.filter_cons, hT]
theorem k_comp {ws : List W} {ck : Option (Nat × List W)} (T : W -> Bool) (Y : W -> W) (h : fi ρ st = .ok (ws, ck) st1) (hl : ws.length <= LIM) (hc : chkOk st1 ck)
    (hs : ∀ w ∈ ws, ∃ ρ', f w (capW cap ρ) = some ρ' /\ t ρ' st1 = .ok (T w) st1 /\ (T w = true -> el ρ' st1 = .ok (Y w) st1)) : eComp cap fi f t el ρ st = .ok (.loc st1.length) (st1 ++ [.lst ((ws.filter T).map Y)]) := by
  unfold eComp
  rw [h]
  simp only [R.bind_ok]
  rw [if_pos hl, compW_eq hc T Y ws [] hs]
  simp only [R.bind_ok, List.nil_append, mkLst]
  rw [if_pos]
  rw [List.length_map]
  exact Nat.le_trans (List.length_filter_le _ _) hl
theorem k_compY {ws : List W} {ck : Option (Nat × List W)} (Y : W -> W) (h : fi ρ st = .ok (ws, ck) st1) (hl : ws.length <= LIM) (hc : chkOk st1 ck)
    (hs : ∀ w ∈ ws, ∃ ρ', f w (capW cap ρ) = some ρ' /\ el ρ' st1 = .ok (Y w) st1) : eComp cap fi f fYes el ρ st = .ok (.loc st1.length) (st1 ++ [.lst (ws.map Y)]) := by
  have := k_comp (fi := fi) (f := f) (t := fYes) (el := el) (cap := cap) (fun _ => true) Y h hl hc fun w hw => by
    obtain ⟨ρ', e1, e2⟩ := hs w hw
    exact ⟨ρ', e1, rfl, fun _ => e2⟩
  rw [List.filter_eq_self.mpr (fun _ _ => rfl)] at this
  exact this
theorem range_mem {q : Nat} {lo : Int} {w : W} (h : w ∈ rangeW lo q) : ∃ i : Nat, i < q /\ w = .int (lo + i) := by
  unfold rangeW at h
  obtain ⟨i, hi, rfl⟩ := List.mem_map.mp h
  exact ⟨i, List.mem_range.mp hi, rfl⟩
theorem o_tupL {n : Nat} {ws : List W} (h : lstOf st n = some ws) : bTuple [.loc n] st = .ok (.tup ws) st := by unfold bTuple; simp only [h, ofO_some]
end
end L2
set_option Elab.async false
set_option linter.all false
set_option maxRecDepth 100000
set_option maxHeartbeats 4000000
namespace P
open PySem L2
abbrev LL : List Nat := [65, 66, 67, 68, 69, 70, 71, 72, 73, 74, 75, 76, 77, 78, 79, 80, 81, 82, 83, 84, 85, 86, 87, 88, 89, 90, 97, 98, 99, 100, 101, 102, 103, 104, 105, 106, 107, 108, 109, 110, 111, 112, 113, 114, 115, 116, 117, 118, 119, 120, 121, 122]
theorem find_all : (LL.all fun c => findN LL c == (LL.idxOf c : Int)) = true := by decide +kernel
theorem find_at {c : Nat} (h : c ∈ LL) : findN LL c = (LL.idxOf c : Int) := by
  have := List.all_eq_true.mp find_all c h
  simpa using this
theorem idx_all : (LL.all fun c => LL.all fun d => decide (c < d) == decide (LL.idxOf c < LL.idxOf d)) = true := by decide +kernel
theorem idx_lt {c d : Nat} (hc : c ∈ LL) (hd : d ∈ LL) : c < d ↔ LL.idxOf c < LL.idxOf d := by
  have := List.all_eq_true.mp (List.all_eq_true.mp idx_all c hc) d hd
  simpa using this
def lf : List Nat -> Nat -> Option Nat
  | [], f => some f
  | a :: l, f => if f < a then none else lf l (f - a + 1)
def rt : List Nat -> Option Nat
  | [] => some 1
  | a :: l => match rt l with
    | some n => if n < 1 then none else some (n - 1 + a)
    | none => none
theorem lf_rt : ∀ (l : List Nat) (f : Nat), lf l f = some 1 ↔ rt l = some f
  | [], f => by simp [lf, rt]; omega
  | a :: l, f => by
    unfold lf rt
    by_cases h : f < a
    · rw [if_pos h]
      constructor
      · intro z; cases z
      · intro z
        cases e : rt l with
        | none => rw [e] at z; cases z
        | some n =>
          rw [e] at z
          simp only at z
          split at z
          · cases z
          · cases z; omega
    · rw [if_neg h, lf_rt l (f - a + 1)]
      cases e : rt l with
      | none => simp
      | some n =>
        simp only [Option.some.injEq]
        by_cases h1 : n < 1
        · rw [if_pos h1]; simp; omega
        · rw [if_neg h1]; simp; omega
theorem sortU_self {l : List Nat} : sortU l = l ↔ l.Pairwise (· < ·) := by
  constructor
  · intro h; rw [<- h]; exact sortU_up l
  · intro h
    induction l with
    | nil => rfl
    | cons a r ih =>
      obtain ⟨h1, h2⟩ := List.pairwise_cons.mp h
      show insU a (sortU r) = a :: r
      rw [ih h2]
      cases r with
      | nil => rfl
      | cons b r => unfold insU; rw [if_pos (h1 b (by simp))]
def rise : Int -> List Nat -> Bool
  | _, [] => true
  | k, c :: l => if findN LL c <= k then false else rise (findN LL c) l
theorem rise_iff : ∀ (l : List Nat) (k : Int), -1 <= k -> (rise k l = true ↔ (∀ c ∈ l, c ∈ LL /\ k < findN LL c) /\ l.Pairwise (· < ·))
  | [], k, _ => by simp [rise]
  | c :: l, k, hk => by
    unfold rise
    by_cases h : findN LL c <= k
    · rw [if_pos h]
      constructor
      · intro z; cases z
      · intro z; have := (z.1 c (by simp)).2; omega
    · rw [if_neg h]
      have hc : c ∈ LL := by
        by_cases q : c ∈ LL
        · exact q
        · rw [findN_no q] at h; omega
      rw [rise_iff l (findN LL c) (by omega)]
      constructor
      · rintro ⟨h1, h2⟩
        refine ⟨fun d hd => ?_, List.pairwise_cons.mpr ⟨fun d hd => ?_, h2⟩⟩
        · rcases List.mem_cons.mp hd with rfl | hd
          · exact ⟨hc, by omega⟩
          · obtain ⟨q1, q2⟩ := h1 d hd
            exact ⟨q1, by omega⟩
        · obtain ⟨q1, q2⟩ := h1 d hd
          rw [idx_lt hc q1]
          rw [find_at hc, find_at q1] at q2
          omega
      · rintro ⟨h1, h2⟩
        obtain ⟨p1, p2⟩ := List.pairwise_cons.mp h2
        refine ⟨fun d hd => ?_, p2⟩
        have q1 := (h1 d (by simp [hd])).1
        refine ⟨q1, ?_⟩
        have := (idx_lt hc q1).mp (p1 d hd)
        rw [find_at hc, find_at q1]; omega
theorem row_iff (l : List Nat) : rise (-1) l = true ↔ (∀ c ∈ l, c ∈ LL) /\ sortU l = l := by
  rw [rise_iff l (-1) (by omega), sortU_self]
  constructor
  · rintro ⟨h1, h2⟩; exact ⟨fun c hc => (h1 c hc).1, h2⟩
  · rintro ⟨h1, h2⟩
    refine ⟨fun c hc => ⟨h1 c hc, ?_⟩, h2⟩
    rw [find_at (h1 c hc)]; omega
end P
set_option Elab.async false
set_option linter.all false
set_option maxRecDepth 100000
set_option maxHeartbeats 4000000
namespace P
open PySem L2
open PyProof.Rows (boot_sorted boot_set boot_ord boot_all boot_enumerate boot_int boot_str boot_bool boot_list boot_tuple boot_isinstance boot_max boot_min)
def top (i : Nat) : Stmt := PySem.Challenge.pw_trunksay_k10_tree_texts_refused.main.body.getD i (.Pass ⟨0, 0, 0, 0⟩)
abbrev s_q0 : Stmt := top 13
abbrev n_is_letter : List Str := ["sign"]
abbrev p_q0 : List Str := ["sign"]
theorem sc_q0 : FnScope n_is_letter p_q0 (defScope s_q0) := ⟨rfl, rfl, rfl, by decide +kernel, rfl, by decide +kernel, by decide +kernel⟩
abbrev s_q1 : Stmt := top 14
abbrev n_in_order : List Str := ["letters"]
abbrev p_q1 : List Str := ["letters"]
theorem sc_q1 : FnScope n_in_order p_q1 (defScope s_q1) := ⟨rfl, rfl, rfl, by decide +kernel, rfl, by decide +kernel, by decide +kernel⟩
abbrev s_q2 : Stmt := top 15
abbrev n_is_row : List Str := ["text"]
abbrev p_q2 : List Str := ["text"]
theorem sc_q2 : FnScope n_is_row p_q2 (defScope s_q2) := ⟨rfl, rfl, rfl, by decide +kernel, rfl, by decide +kernel, by decide +kernel⟩
abbrev s_q3 : Stmt := top 18
abbrev n_has_left : List Str := ["place"]
abbrev p_q3 : List Str := ["place"]
theorem sc_q3 : FnScope n_has_left p_q3 (defScope s_q3) := ⟨rfl, rfl, rfl, by decide +kernel, rfl, by decide +kernel, by decide +kernel⟩
abbrev s_q4 : Stmt := top 19
abbrev n_has_right : List Str := ["place"]
abbrev p_q4 : List Str := ["place"]
theorem sc_q4 : FnScope n_has_right p_q4 (defScope s_q4) := ⟨rfl, rfl, rfl, by decide +kernel, rfl, by decide +kernel, by decide +kernel⟩
abbrev s_q5 : Stmt := top 20
abbrev n_is_whole : List Str := ["value"]
abbrev p_q5 : List Str := ["value"]
theorem sc_q5 : FnScope n_is_whole p_q5 (defScope s_q5) := ⟨rfl, rfl, rfl, by decide +kernel, rfl, by decide +kernel, by decide +kernel⟩
abbrev s_q6 : Stmt := top 21
abbrev n_is_place : List Str := ["place"]
abbrev p_q6 : List Str := ["place"]
theorem sc_q6 : FnScope n_is_place p_q6 (defScope s_q6) := ⟨rfl, rfl, rfl, by decide +kernel, rfl, by decide +kernel, by decide +kernel⟩
abbrev s_q7 : Stmt := top 22
abbrev n_is_tree : List Str := ["places", "finished", "place"]
abbrev p_q7 : List Str := ["places"]
theorem sc_q7 : FnScope n_is_tree p_q7 (defScope s_q7) := ⟨rfl, rfl, rfl, by decide +kernel, rfl, by decide +kernel, by decide +kernel⟩
abbrev s_q8 : Stmt := top 26
abbrev n_read_place : List Str := ["word"]
abbrev p_q8 : List Str := ["word"]
theorem sc_q8 : FnScope n_read_place p_q8 (defScope s_q8) := ⟨rfl, rfl, rfl, by decide +kernel, rfl, by decide +kernel, by decide +kernel⟩
abbrev s_q9 : Stmt := top 27
abbrev n_read_tree : List Str := ["text", "tree"]
abbrev p_q9 : List Str := ["text"]
theorem sc_q9 : FnScope n_read_tree p_q9 (defScope s_q9) := ⟨rfl, rfl, rfl, by decide +kernel, rfl, by decide +kernel, by decide +kernel⟩
abbrev s_q10 : Stmt := top 29
abbrev n__law_cell : List Str := ["_law_script", "_law_k"]
abbrev p_q10 : List Str := ["_law_script", "_law_k"]
theorem sc_q10 : FnScope n__law_cell p_q10 (defScope s_q10) := ⟨rfl, rfl, rfl, by decide +kernel, rfl, by decide +kernel, by decide +kernel⟩
abbrev s_q11 : Stmt := top 30
abbrev n__law_mixed : List Str := ["_law_cell_here", "_law_k", "_law_salt", "_law_first"]
abbrev p_q11 : List Str := ["_law_cell_here", "_law_k", "_law_salt"]
theorem sc_q11 : FnScope n__law_mixed p_q11 (defScope s_q11) := ⟨rfl, rfl, rfl, by decide +kernel, rfl, by decide +kernel, by decide +kernel⟩
abbrev s_q12 : Stmt := top 31
abbrev n__law_draws : List Str := ["_law_cell_here", "_law_many", "_law_salt", "_law_found", "_law_rest", "_law_k"]
abbrev p_q12 : List Str := ["_law_cell_here", "_law_many", "_law_salt"]
theorem sc_q12 : FnScope n__law_draws p_q12 (defScope s_q12) := ⟨rfl, rfl, rfl, by decide +kernel, rfl, by decide +kernel, by decide +kernel⟩
abbrev s_q13 : Stmt := top 32
abbrev n__law_size : List Str := ["_law_cell_here", "_law_salt", "_law_most", "_law_draws_here", "_law_size_here"]
abbrev p_q13 : List Str := ["_law_cell_here", "_law_salt", "_law_most"]
theorem sc_q13 : FnScope n__law_size p_q13 (defScope s_q13) := ⟨rfl, rfl, rfl, by decide +kernel, rfl, by decide +kernel, by decide +kernel⟩
abbrev s_q14 : Stmt := top 33
abbrev n__law_same : List Str := ["_law_found", "_law_due_here", "_law_k"]
abbrev p_q14 : List Str := ["_law_found", "_law_due_here"]
theorem sc_q14 : FnScope n__law_same p_q14 (defScope s_q14) := ⟨rfl, rfl, rfl, by decide +kernel, rfl, by decide +kernel, by decide +kernel⟩
abbrev s_q15 : Stmt := top 34
abbrev n__law_pool : List Str := ["_law_cell_here", "_law_many", "_law_salt", "_law_rest", "_law_found", "_law_d", "_law_at"]
abbrev p_q15 : List Str := ["_law_cell_here", "_law_many", "_law_salt"]
theorem sc_q15 : FnScope n__law_pool p_q15 (defScope s_q15) := ⟨rfl, rfl, rfl, by decide +kernel, rfl, by decide +kernel, by decide +kernel⟩
abbrev s_q16 : Stmt := top 35
abbrev n__law_marks : List Str := ["_law_pool_here", "_law_number"]
abbrev p_q16 : List Str := ["_law_pool_here", "_law_number"]
theorem sc_q16 : FnScope n__law_marks p_q16 (defScope s_q16) := ⟨rfl, rfl, rfl, by decide +kernel, rfl, by decide +kernel, by decide +kernel⟩
abbrev s_q17 : Stmt := top 36
abbrev n__law_wood : List Str := ["_law_draws_here", "_law_pool_here", "_law_most", "_law_found", "_law_high", "_law_d", "_law_branches", "_law_many"]
abbrev p_q17 : List Str := ["_law_draws_here", "_law_pool_here", "_law_most"]
theorem sc_q17 : FnScope n__law_wood p_q17 (defScope s_q17) := ⟨rfl, rfl, rfl, by decide +kernel, rfl, by decide +kernel, by decide +kernel⟩
abbrev s_q18 : Stmt := top 37
abbrev n__law_letters : List Str := []
abbrev p_q18 : List Str := []
theorem sc_q18 : FnScope n__law_letters p_q18 (defScope s_q18) := ⟨rfl, rfl, rfl, by decide +kernel, rfl, by decide +kernel, by decide +kernel⟩
abbrev s_q19 : Stmt := top 38
abbrev n__law_signs : List Str := ["_law_some"]
abbrev p_q19 : List Str := []
theorem sc_q19 : FnScope n__law_signs p_q19 (defScope s_q19) := ⟨rfl, rfl, rfl, by decide +kernel, rfl, by decide +kernel, by decide +kernel⟩
abbrev s_q20 : Stmt := top 39
abbrev n__law_kinds : List Str := ["_law_e", "_law_found"]
abbrev p_q20 : List Str := ["_law_e"]
theorem sc_q20 : FnScope n__law_kinds p_q20 (defScope s_q20) := ⟨rfl, rfl, rfl, by decide +kernel, rfl, by decide +kernel, by decide +kernel⟩
abbrev s_q21 : Stmt := top 40
abbrev n__law_due_refusal : List Str := ["_law_at"]
abbrev p_q21 : List Str := ["_law_at"]
theorem sc_q21 : FnScope n__law_due_refusal p_q21 (defScope s_q21) := ⟨rfl, rfl, rfl, by decide +kernel, rfl, by decide +kernel, by decide +kernel⟩
abbrev s_q22 : Stmt := top 41
abbrev n__law_text : List Str := ["_law_tree"]
abbrev p_q22 : List Str := ["_law_tree"]
theorem sc_q22 : FnScope n__law_text p_q22 (defScope s_q22) := ⟨rfl, rfl, rfl, by decide +kernel, rfl, by decide +kernel, by decide +kernel⟩
abbrev s_q23 : Stmt := top 42
abbrev n__law_read : List Str := ["_law_text_here", "_law_found", "_law_e"]
abbrev p_q23 : List Str := ["_law_text_here"]
theorem sc_q23 : FnScope n__law_read p_q23 (defScope s_q23) := ⟨rfl, rfl, rfl, by decide +kernel, rfl, by decide +kernel, by decide +kernel⟩
abbrev s_q24 : Stmt := top 43
abbrev n__law_due_place : List Str := ["_law_word", "_law_last", "_law_sign", "_law_at"]
abbrev p_q24 : List Str := ["_law_word"]
theorem sc_q24 : FnScope n__law_due_place p_q24 (defScope s_q24) := ⟨rfl, rfl, rfl, by decide +kernel, rfl, by decide +kernel, by decide +kernel⟩
abbrev s_q25 : Stmt := top 44
abbrev n__law_due : List Str := ["_law_text_here", "_law_blanks", "_law_places", "_law_need", "_law_k"]
abbrev p_q25 : List Str := ["_law_text_here"]
theorem sc_q25 : FnScope n__law_due p_q25 (defScope s_q25) := ⟨rfl, rfl, rfl, by decide +kernel, rfl, by decide +kernel, by decide +kernel⟩
abbrev s_q26 : Stmt := top 45
abbrev n__law_spoilt : List Str := ["_law_text_here", "_law_ways", "_law_at", "_law_sign", "_law_way", "_law_words", "_law_some", "_law_kept", "_law_odd"]
abbrev p_q26 : List Str := ["_law_text_here", "_law_ways"]
theorem sc_q26 : FnScope n__law_spoilt p_q26 (defScope s_q26) := ⟨rfl, rfl, rfl, by decide +kernel, rfl, by decide +kernel, by decide +kernel⟩
abbrev s_q27 : Stmt := top 46
abbrev n_law : List Str := ["_law_script", "_law_pool_here", "_law_draws_here", "_law_ways", "_law_text_here", "_law_blanks", "_law_due_here"]
abbrev p_q27 : List Str := ["_law_script"]
theorem sc_q27 : FnScope n_law p_q27 (defScope s_q27) := ⟨rfl, rfl, rfl, by decide +kernel, rfl, by decide +kernel, by decide +kernel⟩
structure Bl (mg : Str -> Option Value) : Prop where
  ValueError : mg "ValueError" = Option.none
  all : mg "all" = Option.none
  bool : mg "bool" = Option.none
  int : mg "int" = Option.none
  isinstance : mg "isinstance" = Option.none
  len : mg "len" = Option.none
  min : mg "min" = Option.none
  range : mg "range" = Option.none
  set : mg "set" = Option.none
  sorted : mg "sorted" = Option.none
  str : mg "str" = Option.none
  tuple : mg "tuple" = Option.none
def c_ALL_LETTERS : W := .str [65, 66, 67, 68, 69, 70, 71, 72, 73, 74, 75, 76, 77, 78, 79, 80, 81, 82, 83, 84, 85, 86, 87, 88, 89, 90, 97, 98, 99, 100, 101, 102, 103, 104, 105, 106, 107, 108, 109, 110, 111, 112, 113, 114, 115, 116, 117, 118, 119, 120, 121, 122]
def c_MOST_PLACES : W := .int 100
def c_EMPTY : W := .str [45]
def c_FIGURES : W := .tup [.str [48], .str [49], .str [50], .str [51]]
structure Gc (K : PySem.W.Frag) (mg : Str -> Option Value) : Prop where
  ALL_LETTERS : ∃ u v, mg "ALL_LETTERS" = some u /\ RelV v u /\ ∀ μ H, RelW K μ H c_ALL_LETTERS v
  MOST_PLACES : ∃ u v, mg "MOST_PLACES" = some u /\ RelV v u /\ ∀ μ H, RelW K μ H c_MOST_PLACES v
  EMPTY : ∃ u v, mg "EMPTY" = some u /\ RelV v u /\ ∀ μ H, RelW K μ H c_EMPTY v
  FIGURES : ∃ u v, mg "FIGURES" = some u /\ RelV v u /\ ∀ μ H, RelW K μ H c_FIGURES v
abbrev cs_TrunkError : List Str := ["TrunkError", "NoTree", "TooGreat"]
def ti_NoLine : Str -> Option Bool := fun c => if c = "TrunkError" then some false else if c = "NoTree" then some false else if c = "TooGreat" then some false else none
def ti_NoName : Str -> Option Bool := fun c => if c = "TrunkError" then some false else if c = "NoTree" then some false else if c = "TooGreat" then some false else none
def ti_NoNumber : Str -> Option Bool := fun c => if c = "TrunkError" then some false else if c = "NoTree" then some false else if c = "TooGreat" then some false else none
def ti_NoPlace : Str -> Option Bool := fun c => if c = "TrunkError" then some false else if c = "NoTree" then some false else if c = "TooGreat" then some false else none
def ti_NoStatement : Str -> Option Bool := fun c => if c = "TrunkError" then some false else if c = "NoTree" then some false else if c = "TooGreat" then some false else none
def ti_NoTree : Str -> Option Bool := fun c => if c = "TrunkError" then some false else if c = "NoTree" then some true else if c = "TooGreat" then some false else none
def ti_NothingDone : Str -> Option Bool := fun c => if c = "TrunkError" then some false else if c = "NoTree" then some false else if c = "TooGreat" then some false else none
def ti_NothingHeld : Str -> Option Bool := fun c => if c = "TrunkError" then some false else if c = "NoTree" then some false else if c = "TooGreat" then some false else none
def ti_TooGreat : Str -> Option Bool := fun c => if c = "TrunkError" then some false else if c = "NoTree" then some false else if c = "TooGreat" then some true else none
def ti_ValueError : Str -> Option Bool := fun c => if c = "TrunkError" then some true else if c = "NoTree" then some true else if c = "TooGreat" then some true else none
theorem boot_VE : bootBuiltins "ValueError" = some (.type "ValueError") := by first | rfl | kernel_rfl | decide +kernel
structure Cls (K : PySem.W.Frag) (mg : Str -> Option Value) : Prop where
  TrunkError : ExcW K mg "TrunkError"
  NoTree : ExcW K mg "NoTree"
  TooGreat : ExcW K mg "TooGreat"
  isi_NoLine : ∃ Ta, mg "NoLine" = some (.ref Ta) /\ IsiW K mg (.ref Ta) ti_NoLine
  isi_NoName : ∃ Ta, mg "NoName" = some (.ref Ta) /\ IsiW K mg (.ref Ta) ti_NoName
  isi_NoNumber : ∃ Ta, mg "NoNumber" = some (.ref Ta) /\ IsiW K mg (.ref Ta) ti_NoNumber
  isi_NoPlace : ∃ Ta, mg "NoPlace" = some (.ref Ta) /\ IsiW K mg (.ref Ta) ti_NoPlace
  isi_NoStatement : ∃ Ta, mg "NoStatement" = some (.ref Ta) /\ IsiW K mg (.ref Ta) ti_NoStatement
  isi_NoTree : ∃ Ta, mg "NoTree" = some (.ref Ta) /\ IsiW K mg (.ref Ta) ti_NoTree
  isi_NothingDone : ∃ Ta, mg "NothingDone" = some (.ref Ta) /\ IsiW K mg (.ref Ta) ti_NothingDone
  isi_NothingHeld : ∃ Ta, mg "NothingHeld" = some (.ref Ta) /\ IsiW K mg (.ref Ta) ti_NothingHeld
  isi_TooGreat : ∃ Ta, mg "TooGreat" = some (.ref Ta) /\ IsiW K mg (.ref Ta) ti_TooGreat
  isi_ValueError : IsiW K mg (.type "ValueError") ti_ValueError
  catch_TrunkError : CatchW K mg "TrunkError" cs_TrunkError
section
variable {P : Program} {w : World} {K : PySem.W.Frag} {mg : Str -> Option Value} {base : Heap} {f : Addr} {fd : FuncData}
noncomputable def g_q0 : FS := (xRet (eAnd (e2 wEq (eCall bLen (aCons (eVar 0) aNil)) (eC (.int 1))) (e2 (wIn false) (eVar 0) (eC c_ALL_LETTERS))))
noncomputable def f_q0 : List W -> List Cell -> R W := runF 1 g_q0
theorem ok_q0 (F : Fun K "is_letter" "is_letter" s_q0 f fd) (B : Bl mg) (G : Gc K mg)  : FnOk P w K mg base (CX1 P w) 1 f fd p_q0 (spW K mg 1 f_q0) :=
  fnW_of (k := 0) F sc_q0 rfl fun cdv A outer s H E hr => (sb_one (ss_ret (s_and (s_cmp (w_eq hr) (s_callB b_len B.len PySem.boot_len (sa_cons (s_var 0) sa_nil)) s_int) (s_one (s_cmp (w_in hr) (s_var 0) (s_gc G.ALL_LETTERS))))))
noncomputable def g_q1 : FS := (xRet (eMS mJoin (eC (.str [])) (aCons (eSortSet (eVar 0)) aNil)))
noncomputable def f_q1 : List W -> List Cell -> R W := runF 1 g_q1
theorem ok_q1 (F : Fun K "in_order" "in_order" s_q1 f fd) (B : Bl mg)  : FnOk P w K mg base (CX1 P w) 1 f fd p_q1 (spW K mg 1 f_q1) :=
  fnW_of (k := 0) F sc_q1 rfl fun cdv A outer s H E hr => (sb_one (ss_ret (s_ms PySem.F.slot_str_join PySem.F.type_str_join m_joinW s_str (sa_cons (s_sortSet B.sorted B.set (s_var 0)) sa_nil))))
noncomputable def g_q2 : FS := (xRet (eAnd (eCall bAll (aCons (eComp [none] (itAny (eVar 0)) (gNm 0) fYes (eDef 1 f_q0 (aCons (eVar 0) aNil))) aNil)) (e2 wEq (eDef 1 f_q1 (aCons (eVar 0) aNil)) (eVar 0))))
noncomputable def f_q2 : List W -> List Cell -> R W := runF 1 g_q2
theorem ok_q2 (F : Fun K "is_row" "is_row" s_q2 f fd) (B : Bl mg) (h_q1 : HasW P w K mg base 1 "in_order" 1 f_q1) (h_q0 : HasW P w K mg base 1 "is_letter" 1 f_q0) : FnOk P w K mg base (CX1 P w) 2 f fd p_q2 (spW K mg 1 f_q2) :=
  fnW_of (k := 1) F sc_q2 rfl fun cdv A outer s H E hr => (sb_one (ss_ret (s_and (s_callB b_all B.all boot_all (sa_cons (s_comp (m := 0) (nm := ["sign"]) (cap := [none]) (by first | rfl | kernel_rfl) rfl (si_any (s_var 0)) (fun _ _ _ _ _ => (sg_name (i := 0) (show List.Nodup (["sign"] : List Str) from by decide +kernel) rfl (Or.inl rfl))) (fun _ _ _ _ _ => sts_nil) (fun _ _ _ _ _ => (s_def h_q0 hr (by omega) (sa_cons (s_var 0) sa_nil)))) sa_nil)) (s_one (s_cmp (w_eq hr) (s_def h_q1 hr (by omega) (sa_cons (s_var 0) sa_nil)) (s_var 0))))))
noncomputable def g_q3 : FS := (xRet (e2 (wIn false) (e2 wIx (eVar 0) (eC (.int 0))) (eTup (aCons (eC (.int 1)) (aCons (eC (.int 3)) aNil)))))
noncomputable def f_q3 : List W -> List Cell -> R W := runF 1 g_q3
theorem ok_q3 (F : Fun K "has_left" "has_left" s_q3 f fd)   : FnOk P w K mg base (CX1 P w) 1 f fd p_q3 (spW K mg 1 f_q3) :=
  fnW_of (k := 0) F sc_q3 rfl fun cdv A outer s H E hr => (sb_one (ss_ret (s_cmp (w_in hr) (s_ix (s_var 0) s_int) (s_tup (sa_cons s_int (sa_cons s_int sa_nil))))))
noncomputable def g_q4 : FS := (xRet (e2 (wIn false) (e2 wIx (eVar 0) (eC (.int 0))) (eTup (aCons (eC (.int 2)) (aCons (eC (.int 3)) aNil)))))
noncomputable def f_q4 : List W -> List Cell -> R W := runF 1 g_q4
theorem ok_q4 (F : Fun K "has_right" "has_right" s_q4 f fd)   : FnOk P w K mg base (CX1 P w) 1 f fd p_q4 (spW K mg 1 f_q4) :=
  fnW_of (k := 0) F sc_q4 rfl fun cdv A outer s H E hr => (sb_one (ss_ret (s_cmp (w_in hr) (s_ix (s_var 0) s_int) (s_tup (sa_cons s_int (sa_cons s_int sa_nil))))))
noncomputable def g_q5 : FS := (xRet (eAnd (eIsT "int" (eVar 0)) (eNot (eIsT "bool" (eVar 0)))))
noncomputable def f_q5 : List W -> List Cell -> R W := runF 1 g_q5
theorem ok_q5 (F : Fun K "is_whole" "is_whole" s_q5 f fd) (B : Bl mg)  : FnOk P w K mg base (CX1 P w) 1 f fd p_q5 (spW K mg 1 f_q5) :=
  fnW_of (k := 0) F sc_q5 rfl fun cdv A outer s H E hr => (sb_one (ss_ret (s_and (s_isT B.isinstance B.int boot_int (s_var 0)) (s_one (s_not (s_isT B.isinstance B.bool boot_bool (s_var 0)))))))
noncomputable def g_q6 : FS := (xSeq (xIf (bor (bnt (asB (eIsT "tuple" (eVar 0)))) (asB (e2 wNe (eCall bLen (aCons (eVar 0) aNil)) (eC (.int 2))))) (xRet (eC (.bl false))) xNext) (xSeq (xIf (bor (bnt (asB (eDef 1 f_q5 (aCons (e2 wIx (eVar 0) (eC (.int 0))) aNil)))) (bnt (asB (eIsT "str" (e2 wIx (eVar 0) (eC (.int 1))))))) (xRet (eC (.bl false))) xNext) (xRet (eAnd (eChain wLeD wLeD (eC (.int 0)) (e2 wIx (eVar 0) (eC (.int 0))) (eC (.int 3))) (eDef 1 f_q2 (aCons (e2 wIx (eVar 0) (eC (.int 1))) aNil))))))
noncomputable def f_q6 : List W -> List Cell -> R W := runF 1 g_q6
theorem ok_q6 (F : Fun K "is_place" "is_place" s_q6 f fd) (B : Bl mg) (h_q2 : HasW P w K mg base 2 "is_row" 1 f_q2) (h_q5 : HasW P w K mg base 1 "is_whole" 1 f_q5) : FnOk P w K mg base (CX1 P w) 3 f fd p_q6 (spW K mg 1 f_q6) :=
  fnW_of (k := 2) F sc_q6 rfl fun cdv A outer s H E hr => (sb_cons (ss_if (st_w (sw_or (st_not (st_val (s_isT B.isinstance B.tuple boot_tuple (s_var 0)))) (sw_or1 (st_cmp (w_ne hr) (s_callB b_len B.len PySem.boot_len (sa_cons (s_var 0) sa_nil)) s_int)))) (sb_one (ss_ret s_bl)) sb_nil) (sb_cons (ss_if (st_w (sw_or (st_not (st_val (s_def h_q5 hr (by omega) (sa_cons (s_ix (s_var 0) s_int) sa_nil)))) (sw_or1 (st_not (st_val (s_isT B.isinstance B.str boot_str (s_ix (s_var 0) s_int))))))) (sb_one (ss_ret s_bl)) sb_nil) (sb_one (ss_ret (s_and (s_chain w_leD w_leD s_int (s_ix (s_var 0) s_int) s_int) (s_one (s_def h_q2 hr (by omega) (sa_cons (s_ix (s_var 0) s_int) sa_nil))))))))
noncomputable def g_q7 : FS := (xSeq (xSet 1 (eC (.int 0))) (xSeq (xFor (itAny (eVar 0)) (gNm 2) (xSeq (xIf (bnt (asB (eDef 1 f_q6 (aCons (eVar 2) aNil)))) (xRet (eC (.bl false))) xNext) (xSeq (xIf (asB (eDef 1 f_q3 (aCons (eVar 2) aNil))) (xSet 1 (e2 wSub (eVar 1) (eC (.int 1)))) xNext) (xSeq (xIf (asB (eDef 1 f_q4 (aCons (eVar 2) aNil))) (xSet 1 (e2 wSub (eVar 1) (eC (.int 1)))) xNext) (xSeq (xIf (asB (e2 wLt' (eVar 1) (eC (.int 0)))) (xRet (eC (.bl false))) xNext) (xSet 1 (e2 wAdd (eVar 1) (eC (.int 1))))))))) (xRet (eOr (e2 wEq (eCall bLen (aCons (eVar 0) aNil)) (eC (.int 0))) (e2 wEq (eVar 1) (eC (.int 1)))))))
noncomputable def f_q7 : List W -> List Cell -> R W := runF 3 g_q7
theorem ok_q7 (F : Fun K "is_tree" "is_tree" s_q7 f fd) (B : Bl mg) (h_q3 : HasW P w K mg base 1 "has_left" 1 f_q3) (h_q4 : HasW P w K mg base 1 "has_right" 1 f_q4) (h_q6 : HasW P w K mg base 3 "is_place" 1 f_q6) : FnOk P w K mg base (CX1 P w) 4 f fd p_q7 (spW K mg 1 f_q7) :=
  fnW_of (k := 3) F sc_q7 rfl fun cdv A outer s H E hr => (sb_cons (ss_set (i := 1) sc_q7.nd rfl (Or.inl rfl) s_int) (sb_cons (ss_for (si_any (s_var 0)) (sg_name (i := 2) sc_q7.nd rfl (Or.inl rfl)) (sb_cons (ss_if (st_not (st_val (s_def h_q6 hr (by omega) (sa_cons (s_var 2) sa_nil)))) (sb_one (ss_ret s_bl)) sb_nil) (sb_cons (ss_if (st_val (s_def h_q3 hr (by omega) (sa_cons (s_var 2) sa_nil))) (sb_one (ss_set (i := 1) sc_q7.nd rfl (Or.inl rfl) (s_op w_sub (s_var 1) s_int))) sb_nil) (sb_cons (ss_if (st_val (s_def h_q4 hr (by omega) (sa_cons (s_var 2) sa_nil))) (sb_one (ss_set (i := 1) sc_q7.nd rfl (Or.inl rfl) (s_op w_sub (s_var 1) s_int))) sb_nil) (sb_cons (ss_if (st_cmp w_lt (s_var 1) s_int) (sb_one (ss_ret s_bl)) sb_nil) (sb_one (ss_set (i := 1) sc_q7.nd rfl (Or.inl rfl) (s_op w_add (s_var 1) s_int)))))))) (sb_one (ss_ret (s_or (s_cmp (w_eq hr) (s_callB b_len B.len PySem.boot_len (sa_cons (s_var 0) sa_nil)) s_int) (s_one (s_cmp (w_eq hr) (s_var 1) s_int)))))))
noncomputable def g_q8 : FS := (xSeq (xIf (asB (e2 (wIn true) (eSl (eVar 0) oNone (oSome (eC (.int 1)))) (eC c_FIGURES))) (xRaise "NoTree") xNext) (xRet (eTup (aCons (eCall bIntA (aCons (e2 wIx (eVar 0) (eC (.int 0))) aNil)) (aCons (eSl (eVar 0) (oSome (eC (.int 1))) oNone) aNil)))))
noncomputable def f_q8 : List W -> List Cell -> R W := runF 1 g_q8
theorem ok_q8 (F : Fun K "read_place" "read_place" s_q8 f fd) (B : Bl mg) (G : Gc K mg) (C : Cls K mg)  : FnOk P w K mg base (CX1 P w) 1 f fd p_q8 (spW K mg 1 f_q8) :=
  fnW_of (k := 0) F sc_q8 rfl fun cdv A outer s H E hr => (sb_cons (ss_if (st_cmp (w_nin hr) (s_sl (s_var 0) so_none (so_some s_int)) (s_gc G.FIGURES)) (sb_one (ss_raise C.NoTree)) sb_nil) (sb_one (ss_ret (s_tup (sa_cons (s_callTy b_intA B.int boot_int (sa_cons (s_ix (s_var 0) s_int) sa_nil)) (sa_cons (s_sl (s_var 0) (so_some s_int) so_none) sa_nil))))))
noncomputable def g_q9 : FS := (xSeq (xIf (asB (e2 wGe (eMS mCount (eVar 0) (aCons (eC (.str [32])) aNil)) (eC c_MOST_PLACES))) (xRaise "TooGreat") xNext) (xSeq (xIf (asB (e2 wEq (eVar 0) (eC c_EMPTY))) (xRet (eTup aNil)) xNext) (xSeq (xSet 1 (eCall bTuple (aCons (eCompE 1 (itAny (eMS mSplit (eVar 0) (aCons (eC (.str [32])) aNil))) (gNm 0) (eDef 1 f_q8 (aCons (eVar 0) aNil))) aNil))) (xSeq (xIf (bnt (asB (eDef 1 f_q7 (aCons (eVar 1) aNil)))) (xRaise "NoTree") xNext) (xRet (eVar 1))))))
noncomputable def f_q9 : List W -> List Cell -> R W := runF 2 g_q9
theorem ok_q9 (F : Fun K "read_tree" "read_tree" s_q9 f fd) (B : Bl mg) (G : Gc K mg) (C : Cls K mg) (h_q7 : HasW P w K mg base 4 "is_tree" 1 f_q7) (h_q8 : HasW P w K mg base 1 "read_place" 1 f_q8) : FnOk P w K mg base (CX1 P w) 5 f fd p_q9 (spW K mg 1 f_q9) :=
  fnW_of (k := 4) F sc_q9 rfl fun cdv A outer s H E hr => (sb_cons (ss_if (st_cmp w_ge (s_ms PySem.F.slot_str_count PySem.F.type_str_count m_countW (s_var 0) (sa_cons s_str sa_nil)) (s_gc G.MOST_PLACES)) (sb_one (ss_raise C.TooGreat)) sb_nil) (sb_cons (ss_if (st_cmp (w_eq hr) (s_var 0) (s_gc G.EMPTY)) (sb_one (ss_ret (s_tup sa_nil))) sb_nil) (sb_cons (ss_set (i := 1) sc_q9.nd rfl (Or.inl rfl) (s_callTy b_tuple B.tuple boot_tuple (sa_cons (s_compE (nm := ["word"]) (by first | rfl | kernel_rfl) (si_any (s_ms PySem.F.slot_str_split PySem.F.type_str_split m_splitW (s_var 0) (sa_cons s_str sa_nil))) (fun _ _ _ _ _ => (sg_name (i := 0) (show List.Nodup (["word"] : List Str) from by decide +kernel) rfl (Or.inl rfl))) (fun _ _ _ _ _ => (s_def h_q8 hr (by omega) (sa_cons (s_var 0) sa_nil)))) sa_nil))) (sb_cons (ss_if (st_not (st_val (s_def h_q7 hr (by omega) (sa_cons (s_var 1) sa_nil)))) (sb_one (ss_raise C.NoTree)) sb_nil) (sb_one (ss_ret (s_var 1)))))))
noncomputable def g_q10 : FS := (xSeq (xIf (asB (e2 wEq (eCall bLen (aCons (eVar 0) aNil)) (eC (.int 0)))) (xRet (eC (.int 0))) xNext) (xRet (e2 wIx (eVar 0) (e2 wMod (eVar 1) (eCall bLen (aCons (eVar 0) aNil))))))
noncomputable def f_q10 : List W -> List Cell -> R W := runF 2 g_q10
theorem ok_q10 (F : Fun K "_law_cell" "_law_cell" s_q10 f fd) (B : Bl mg)  : FnOk P w K mg base (CX1 P w) 1 f fd p_q10 (spW K mg 2 f_q10) :=
  fnW_of (k := 0) F sc_q10 rfl fun cdv A outer s H E hr => (sb_cons (ss_if (st_cmp (w_eq hr) (s_callB b_len B.len PySem.boot_len (sa_cons (s_var 0) sa_nil)) s_int) (sb_one (ss_ret s_int)) sb_nil) (sb_one (ss_ret (s_ix (s_var 0) (s_op w_mod (s_var 1) (s_callB b_len B.len PySem.boot_len (sa_cons (s_var 0) sa_nil)))))))
noncomputable def g_q11 : FS := (xSeq (xSet 3 (e2 wMod (e2 wMulA (e2 wAdd (e2 wAdd (e2 wAdd (eVar 0) (e2 wMulA (e2 wMulA (eC (.int 7)) (eVar 1)) (eVar 1))) (e2 wMulA (eC (.int 13)) (eVar 1))) (eVar 2)) (eC (.int 69621))) (eC (.int 2147483647)))) (xRet (e2 wMod (e2 wMulA (e2 wMod (e2 wAdd (e2 wAdd (e2 wMulA (eVar 3) (e2 wAdd (e2 wFdiv (eVar 3) (eC (.int 1009))) (eC (.int 3)))) (e2 wMulA (eC (.int 31)) (eVar 1))) (eVar 2)) (eC (.int 2147483629))) (eC (.int 48271))) (eC (.int 1000000007)))))
noncomputable def f_q11 : List W -> List Cell -> R W := runF 4 g_q11
theorem ok_q11 (F : Fun K "_law_mixed" "_law_mixed" s_q11 f fd)   : FnOk P w K mg base (CX1 P w) 1 f fd p_q11 (spW K mg 3 f_q11) :=
  fnW_of (k := 0) F sc_q11 rfl fun cdv A outer s H E hr => (sb_cons (ss_set (i := 3) sc_q11.nd rfl (Or.inl rfl) (s_op w_mod (s_op w_mulA (s_op w_add (s_op w_add (s_op w_add (s_var 0) (s_op w_mulA (s_op w_mulA s_int (s_var 1)) (s_var 1))) (s_op w_mulA s_int (s_var 1))) (s_var 2)) s_int) s_int)) (sb_one (ss_ret (s_op w_mod (s_op w_mulA (s_op w_mod (s_op w_add (s_op w_add (s_op w_mulA (s_var 3) (s_op w_add (s_op w_fdiv (s_var 3) s_int) s_int)) (s_op w_mulA s_int (s_var 1))) (s_var 2)) s_int) s_int) s_int))))
noncomputable def g_q12 : FS := (xSeq (xSet 3 (eLst aNil)) (xSeq (xSet 4 (eC (.int 0))) (xSeq (xIf (asB (e2 wGe (eVar 0) (e2 wPow (eC (.int 10)) (eC (.int 18))))) (xSet 4 (eVar 0)) xNext) (xSeq (xFor (itRange1 (aCons (eVar 1) aNil)) (gNm 5) (xIf (asB (e2 wGt (eVar 4) (eC (.int 0)))) (xSeq (xExpr (eML mAppend (eVar 3) (aCons (e2 wMod (eVar 4) (eC (.int 64))) aNil))) (xSet 4 (e2 wFdiv (eVar 4) (eC (.int 64))))) (xExpr (eML mAppend (eVar 3) (aCons (eDef 3 f_q11 (aCons (eVar 0) (aCons (eVar 5) (aCons (eVar 2) aNil)))) aNil))))) (xRet (eVar 3))))))
noncomputable def f_q12 : List W -> List Cell -> R W := runF 6 g_q12
theorem ok_q12 (F : Fun K "_law_draws" "_law_draws" s_q12 f fd) (B : Bl mg) (h_q11 : HasW P w K mg base 1 "_law_mixed" 3 f_q11) : FnOk P w K mg base (CX1 P w) 2 f fd p_q12 (spW K mg 3 f_q12) :=
  fnW_of (k := 1) F sc_q12 rfl fun cdv A outer s H E hr => (sb_cons (ss_set (i := 3) sc_q12.nd rfl (Or.inl rfl) (s_lst sa_nil)) (sb_cons (ss_set (i := 4) sc_q12.nd rfl (Or.inl rfl) s_int) (sb_cons (ss_if (st_cmp w_ge (s_var 0) (s_op w_pow s_int s_int)) (sb_one (ss_set (i := 4) sc_q12.nd rfl (Or.inl rfl) (s_var 0))) sb_nil) (sb_cons (ss_for (si_range1 B.range (sa_cons (s_var 1) sa_nil)) (sg_name (i := 5) sc_q12.nd rfl (Or.inl rfl)) (sb_one (ss_if (st_cmp w_gt (s_var 4) s_int) (sb_cons (ss_expr (s_ml PySem.F.slot_list_append PySem.F.type_list_append m_appendW (s_var 3) (sa_cons (s_op w_mod (s_var 4) s_int) sa_nil))) (sb_one (ss_set (i := 4) sc_q12.nd rfl (Or.inl rfl) (s_op w_fdiv (s_var 4) s_int)))) (sb_one (ss_expr (s_ml PySem.F.slot_list_append PySem.F.type_list_append m_appendW (s_var 3) (sa_cons (s_def h_q11 hr (by omega) (sa_cons (s_var 0) (sa_cons (s_var 5) (sa_cons (s_var 2) sa_nil)))) sa_nil))))))) (sb_one (ss_ret (s_var 3)))))))
noncomputable def g_q13 : FS := (xSeq (xSet 3 (eDef 3 f_q12 (aCons (eVar 0) (aCons (eC (.int 3)) (aCons (eVar 1) aNil))))) (xSeq (xSet 4 (e2 wMod (e2 wAdd (e2 wIx (eVar 3) (eC (.int 0))) (e2 wMulA (eC (.int 64)) (e2 wIx (eVar 3) (eC (.int 1))))) (e2 wAdd (eVar 2) (eC (.int 1))))) (xSeq (xIf (asB (e2 wEq (e2 wMod (e2 wIx (eVar 3) (eC (.int 2))) (eC (.int 3))) (eC (.int 0)))) (xRet (e2 wMod (eVar 4) (eC (.int 7)))) xNext) (xRet (eVar 4)))))
noncomputable def f_q13 : List W -> List Cell -> R W := runF 5 g_q13
theorem ok_q13 (F : Fun K "_law_size" "_law_size" s_q13 f fd)  (h_q12 : HasW P w K mg base 2 "_law_draws" 3 f_q12) : FnOk P w K mg base (CX1 P w) 3 f fd p_q13 (spW K mg 3 f_q13) :=
  fnW_of (k := 2) F sc_q13 rfl fun cdv A outer s H E hr => (sb_cons (ss_set (i := 3) sc_q13.nd rfl (Or.inl rfl) (s_def h_q12 hr (by omega) (sa_cons (s_var 0) (sa_cons s_int (sa_cons (s_var 1) sa_nil))))) (sb_cons (ss_set (i := 4) sc_q13.nd rfl (Or.inl rfl) (s_op w_mod (s_op w_add (s_ix (s_var 3) s_int) (s_op w_mulA s_int (s_ix (s_var 3) s_int))) (s_op w_add (s_var 2) s_int))) (sb_cons (ss_if (st_cmp (w_eq hr) (s_op w_mod (s_ix (s_var 3) s_int) s_int) s_int) (sb_one (ss_ret (s_op w_mod (s_var 4) s_int))) sb_nil) (sb_one (ss_ret (s_var 4))))))
noncomputable def g_q14 (r_q14 : List W -> List Cell -> R W) : FS := (xSeq (xIf (asB (eIsT "tuple" (eVar 1))) (xSeq (xIf (bor (bnt (asB (eIsT "tuple" (eVar 0)))) (asB (e2 wNe (eCall bLen (aCons (eVar 0) aNil)) (eCall bLen (aCons (eVar 1) aNil))))) (xRet (eC (.bl false))) xNext) (xSeq (xFor (itRange1 (aCons (eCall bLen (aCons (eVar 1) aNil)) aNil)) (gNm 2) (xIf (bnt (asB (eDef 2 r_q14 (aCons (e2 wIx (eVar 0) (eVar 2)) (aCons (e2 wIx (eVar 1) (eVar 2)) aNil))))) (xRet (eC (.bl false))) xNext)) (xRet (eC (.bl true))))) xNext) (xSeq (xIf (asB (eIsN (eVar 1))) (xRet (eIsN (eVar 0))) xNext) (xSeq (xIf (asB (eIsT "bool" (eVar 1))) (xRet (eAnd (eIsT "bool" (eVar 0)) (e2 wEq (eVar 0) (eVar 1)))) xNext) (xSeq (xIf (asB (eIsT "int" (eVar 1))) (xRet (eAnd (eIsT "int" (eVar 0)) (eAnd (eNot (eIsT "bool" (eVar 0))) (e2 wEq (eVar 0) (eVar 1))))) xNext) (xRet (eAnd (eIsT "str" (eVar 0)) (e2 wEq (eVar 0) (eVar 1))))))))
noncomputable def f_q14 : Nat -> List W -> List Cell -> R W
  | 0 => fun _ _ => .bad
  | k + 1 => runF 3 (g_q14 (f_q14 k))
theorem has_q14 {fa_q14 : Addr} {fd_q14 : FuncData} (F_q14 : Fun K "_law_same" "_law_same" s_q14 fa_q14 fd_q14) (m_q14 : mg "_law_same" = some (.ref fa_q14)) (B : Bl mg)  : ∀ k : Nat, HasW P w K mg base (0 + k) "_law_same" 2 (f_q14 k)
  | 0 => hasW_bad (ps := p_q14) F_q14 m_q14 rfl (fun _ _ _ _ _ _ us hl => match us, hl with | [_, _], _ => rfl)
  | k + 1 => by
    have h_q14 := has_q14 F_q14 m_q14 B  k
    exact hasW_mk (ps := p_q14) F_q14 m_q14 rfl (fun _ _ _ _ _ _ us hl => match us, hl with | [_, _], _ => rfl) (fnW_of (k := 0 + k) F_q14 sc_q14 rfl fun cdv A outer s H E hr => (sb_cons (ss_if (st_val (s_isT B.isinstance B.tuple boot_tuple (s_var 1))) (sb_cons (ss_if (st_w (sw_or (st_not (st_val (s_isT B.isinstance B.tuple boot_tuple (s_var 0)))) (sw_or1 (st_cmp (w_ne hr) (s_callB b_len B.len PySem.boot_len (sa_cons (s_var 0) sa_nil)) (s_callB b_len B.len PySem.boot_len (sa_cons (s_var 1) sa_nil)))))) (sb_one (ss_ret s_bl)) sb_nil) (sb_cons (ss_for (si_range1 B.range (sa_cons (s_callB b_len B.len PySem.boot_len (sa_cons (s_var 1) sa_nil)) sa_nil)) (sg_name (i := 2) sc_q14.nd rfl (Or.inl rfl)) (sb_one (ss_if (st_not (st_val (s_def h_q14 hr (by omega) (sa_cons (s_ix (s_var 0) (s_var 2)) (sa_cons (s_ix (s_var 1) (s_var 2)) sa_nil))))) (sb_one (ss_ret s_bl)) sb_nil))) (sb_one (ss_ret s_bl)))) sb_nil) (sb_cons (ss_if (st_isN (s_var 1)) (sb_one (ss_ret (s_isN (s_var 0)))) sb_nil) (sb_cons (ss_if (st_val (s_isT B.isinstance B.bool boot_bool (s_var 1))) (sb_one (ss_ret (s_and (s_isT B.isinstance B.bool boot_bool (s_var 0)) (s_one (s_cmp (w_eq hr) (s_var 0) (s_var 1)))))) sb_nil) (sb_cons (ss_if (st_val (s_isT B.isinstance B.int boot_int (s_var 1))) (sb_one (ss_ret (s_and (s_isT B.isinstance B.int boot_int (s_var 0)) (s_and (s_not (s_isT B.isinstance B.bool boot_bool (s_var 0))) (s_one (s_cmp (w_eq hr) (s_var 0) (s_var 1))))))) sb_nil) (sb_one (ss_ret (s_and (s_isT B.isinstance B.str boot_str (s_var 0)) (s_one (s_cmp (w_eq hr) (s_var 0) (s_var 1)))))))))))
noncomputable def g_q15 : FS := (xSeq (xSet 3 (eC (.str [65, 66, 67, 68, 69, 70, 71, 72, 73, 74, 75, 76, 77, 78, 79, 80, 81, 82, 83, 84, 85, 86, 87, 88, 89, 90, 97, 98, 99, 100, 101, 102, 103, 104, 105, 106, 107, 108, 109, 110, 111, 112, 113, 114, 115, 116, 117, 118, 119, 120, 121, 122]))) (xSeq (xSet 4 (eC (.str []))) (xSeq (xFor (itAny (eDef 3 f_q12 (aCons (eVar 0) (aCons (eVar 1) (aCons (eVar 2) aNil))))) (gNm 5) (xSeq (xSet 6 (e2 wMod (eVar 5) (eCall bLen (aCons (eVar 3) aNil)))) (xSeq (xSet 4 (e2 wAdd (eVar 4) (e2 wIx (eVar 3) (eVar 6)))) (xSet 3 (e2 wAdd (eSl (eVar 3) oNone (oSome (eVar 6))) (eSl (eVar 3) (oSome (e2 wAdd (eVar 6) (eC (.int 1)))) oNone)))))) (xRet (eVar 4)))))
noncomputable def f_q15 : List W -> List Cell -> R W := runF 7 g_q15
theorem ok_q15 (F : Fun K "_law_pool" "_law_pool" s_q15 f fd) (B : Bl mg) (h_q12 : HasW P w K mg base 2 "_law_draws" 3 f_q12) : FnOk P w K mg base (CX1 P w) 3 f fd p_q15 (spW K mg 3 f_q15) :=
  fnW_of (k := 2) F sc_q15 rfl fun cdv A outer s H E hr => (sb_cons (ss_set (i := 3) sc_q15.nd rfl (Or.inl rfl) s_str) (sb_cons (ss_set (i := 4) sc_q15.nd rfl (Or.inl rfl) s_str) (sb_cons (ss_for (si_any (s_def h_q12 hr (by omega) (sa_cons (s_var 0) (sa_cons (s_var 1) (sa_cons (s_var 2) sa_nil))))) (sg_name (i := 5) sc_q15.nd rfl (Or.inl rfl)) (sb_cons (ss_set (i := 6) sc_q15.nd rfl (Or.inl rfl) (s_op w_mod (s_var 5) (s_callB b_len B.len PySem.boot_len (sa_cons (s_var 3) sa_nil)))) (sb_cons (ss_set (i := 4) sc_q15.nd rfl (Or.inl rfl) (s_op w_add (s_var 4) (s_ix (s_var 3) (s_var 6)))) (sb_one (ss_set (i := 3) sc_q15.nd rfl (Or.inl rfl) (s_op w_add (s_sl (s_var 3) so_none (so_some (s_var 6))) (s_sl (s_var 3) (so_some (s_op w_add (s_var 6) s_int)) so_none))))))) (sb_one (ss_ret (s_var 4))))))
noncomputable def g_q16 : FS := (xRet (eMS mJoin (eC (.str [])) (aCons (eCall bSorted (aCons (eComp [none, some 0, some 1] (itRange1 (aCons (eCall bLen (aCons (eVar 0) aNil)) aNil)) (gNm 0) (asB (e2 wEq (e2 wBand (e2 wShr (eVar 2) (eVar 0)) (eC (.int 1))) (eC (.int 1)))) (e2 wIx (eVar 1) (eVar 0))) aNil)) aNil)))
noncomputable def f_q16 : List W -> List Cell -> R W := runF 2 g_q16
theorem ok_q16 (F : Fun K "_law_marks" "_law_marks" s_q16 f fd) (B : Bl mg)  : FnOk P w K mg base (CX1 P w) 1 f fd p_q16 (spW K mg 2 f_q16) :=
  fnW_of (k := 0) F sc_q16 rfl fun cdv A outer s H E hr => (sb_one (ss_ret (s_ms PySem.F.slot_str_join PySem.F.type_str_join m_joinW s_str (sa_cons (s_callB b_sorted B.sorted boot_sorted (sa_cons (s_comp (nm := ["_law_k", "_law_pool_here", "_law_number"]) (cap := [none, some 0, some 1]) (by first | rfl | kernel_rfl) rfl (si_range1 B.range (sa_cons (s_callB b_len B.len PySem.boot_len (sa_cons (s_var 0) sa_nil)) sa_nil)) (fun _ _ _ _ _ => (sg_name (i := 0) (show List.Nodup (["_law_k", "_law_pool_here", "_law_number"] : List Str) from by decide +kernel) rfl (Or.inl rfl))) (fun _ _ _ _ _ => (sts_one (st_cmp (w_eq hr) (s_op w_band (s_op w_shr (s_var 2) (s_var 0)) s_int) s_int))) (fun _ _ _ _ _ => (s_ix (s_var 1) (s_var 0)))) sa_nil)) sa_nil))))
noncomputable def g_q17 : FS := (xSeq (xSet 3 (eLst aNil)) (xSeq (xSet 4 (eC (.int 0))) (xSeq (xFor (itAny (eVar 0)) (gNm 5) (xSeq (xSet 6 (e2 wMod (eVar 5) (eC (.int 4)))) (xSeq (xIf (asB (e2 wGt (e2 wFdiv (e2 wAdd (eVar 6) (eC (.int 1))) (eC (.int 2))) (eVar 4))) (xSet 6 (eC (.int 0))) xNext) (xSeq (xIf (bnd (asB (e2 wGt (e2 wSub (e2 wAdd (e2 wAdd (eCall bLen (aCons (eVar 3) aNil)) (eVar 4)) (eC (.int 1))) (e2 wFdiv (e2 wAdd (eVar 6) (eC (.int 1))) (eC (.int 2)))) (eVar 2))) (asB (e2 wGt (eVar 4) (eC (.int 1))))) (xSet 6 (eC (.int 3))) xNext) (xSeq (xSet 7 (e2 wFdiv (e2 wAdd (eVar 6) (eC (.int 1))) (eC (.int 2)))) (xIf (asB (e2 wLeD (e2 wSub (e2 wAdd (e2 wAdd (eCall bLen (aCons (eVar 3) aNil)) (eVar 4)) (eC (.int 1))) (eVar 7)) (eVar 2))) (xSeq (xExpr (eML mAppend (eVar 3) (aCons (eTup (aCons (eVar 6) (aCons (eDef 2 f_q16 (aCons (eVar 1) (aCons (e2 wMod (e2 wFdiv (eVar 5) (eC (.int 4))) (eC (.int 16))) aNil))) aNil))) aNil))) (xSet 4 (e2 wSub (e2 wAdd (eVar 4) (eC (.int 1))) (eVar 7)))) xNext)))))) (xSeq (xWhile (asB (e2 wGt (eVar 4) (eC (.int 1)))) (xSeq (xExpr (eML mAppend (eVar 3) (aCons (eTup (aCons (eC (.int 3)) (aCons (e2 wIx (e2 wIx (eVar 3) (e2 wSub (eVar 4) (eC (.int 1)))) (eC (.int 1))) aNil))) aNil))) (xSet 4 (e2 wSub (eVar 4) (eC (.int 1)))))) (xRet (eCall bTuple (aCons (eVar 3) aNil)))))))
noncomputable def f_q17 : List W -> List Cell -> R W := runF 8 g_q17
theorem ok_q17 (F : Fun K "_law_wood" "_law_wood" s_q17 f fd) (B : Bl mg) (h_q16 : HasW P w K mg base 1 "_law_marks" 2 f_q16) : FnOk P w K mg base (CX1 P w) 2 f fd p_q17 (spW K mg 3 f_q17) :=
  fnW_of (k := 1) F sc_q17 rfl fun cdv A outer s H E hr => (sb_cons (ss_set (i := 3) sc_q17.nd rfl (Or.inl rfl) (s_lst sa_nil)) (sb_cons (ss_set (i := 4) sc_q17.nd rfl (Or.inl rfl) s_int) (sb_cons (ss_for (si_any (s_var 0)) (sg_name (i := 5) sc_q17.nd rfl (Or.inl rfl)) (sb_cons (ss_set (i := 6) sc_q17.nd rfl (Or.inl rfl) (s_op w_mod (s_var 5) s_int)) (sb_cons (ss_if (st_cmp w_gt (s_op w_fdiv (s_op w_add (s_var 6) s_int) s_int) (s_var 4)) (sb_one (ss_set (i := 6) sc_q17.nd rfl (Or.inl rfl) s_int)) sb_nil) (sb_cons (ss_if (st_w (sw_and (st_cmp w_gt (s_op w_sub (s_op w_add (s_op w_add (s_callB b_len B.len PySem.boot_len (sa_cons (s_var 3) sa_nil)) (s_var 4)) s_int) (s_op w_fdiv (s_op w_add (s_var 6) s_int) s_int)) (s_var 2)) (sw_and1 (st_cmp w_gt (s_var 4) s_int)))) (sb_one (ss_set (i := 6) sc_q17.nd rfl (Or.inl rfl) s_int)) sb_nil) (sb_cons (ss_set (i := 7) sc_q17.nd rfl (Or.inl rfl) (s_op w_fdiv (s_op w_add (s_var 6) s_int) s_int)) (sb_one (ss_if (st_cmp w_leD (s_op w_sub (s_op w_add (s_op w_add (s_callB b_len B.len PySem.boot_len (sa_cons (s_var 3) sa_nil)) (s_var 4)) s_int) (s_var 7)) (s_var 2)) (sb_cons (ss_expr (s_ml PySem.F.slot_list_append PySem.F.type_list_append m_appendW (s_var 3) (sa_cons (s_tup (sa_cons (s_var 6) (sa_cons (s_def h_q16 hr (by omega) (sa_cons (s_var 1) (sa_cons (s_op w_mod (s_op w_fdiv (s_var 5) s_int) s_int) sa_nil))) sa_nil))) sa_nil))) (sb_one (ss_set (i := 4) sc_q17.nd rfl (Or.inl rfl) (s_op w_sub (s_op w_add (s_var 4) s_int) (s_var 7))))) sb_nil))))))) (sb_cons (ss_while (st_cmp w_gt (s_var 4) s_int) (sb_cons (ss_expr (s_ml PySem.F.slot_list_append PySem.F.type_list_append m_appendW (s_var 3) (sa_cons (s_tup (sa_cons s_int (sa_cons (s_ix (s_ix (s_var 3) (s_op w_sub (s_var 4) s_int)) s_int) sa_nil))) sa_nil))) (sb_one (ss_set (i := 4) sc_q17.nd rfl (Or.inl rfl) (s_op w_sub (s_var 4) s_int))))) (sb_one (ss_ret (s_callTy b_tuple B.tuple boot_tuple (sa_cons (s_var 3) sa_nil))))))))
noncomputable def g_q18 : FS := (xRet (eC (.str [65, 66, 67, 68, 69, 70, 71, 72, 73, 74, 75, 76, 77, 78, 79, 80, 81, 82, 83, 84, 85, 86, 87, 88, 89, 90, 97, 98, 99, 100, 101, 102, 103, 104, 105, 106, 107, 108, 109, 110, 111, 112, 113, 114, 115, 116, 117, 118, 119, 120, 121, 122])))
noncomputable def f_q18 : List W -> List Cell -> R W := runF 0 g_q18
theorem ok_q18 (F : Fun K "_law_letters" "_law_letters" s_q18 f fd)   : FnOk P w K mg base (CX1 P w) 1 f fd p_q18 (spW K mg 0 f_q18) :=
  fnW_of (k := 0) F sc_q18 rfl fun cdv A outer s H E hr => (sb_one (ss_ret s_str))
noncomputable def g_q19 : FS := (xSeq (xSet 0 (eC (.str [32, 33, 34, 35, 36, 38, 39, 40, 41, 42, 43, 44, 45, 46, 47, 48, 49, 50, 51, 52, 53, 54, 55, 56, 57, 58, 59, 60, 61, 62, 63, 64, 65, 66, 67, 68, 69, 70, 71, 72, 73, 74, 75, 76, 77, 78, 79, 80, 81, 82, 83, 84, 85, 86, 87, 88, 89, 90, 91, 92, 93, 94, 95, 96]))) (xRet (e2 wAdd (eVar 0) (eC (.str [97, 98, 99, 100, 101, 102, 103, 104, 105, 106, 107, 108, 109, 110, 111, 112, 113, 114, 115, 116, 117, 118, 119, 120, 121, 122, 123, 124, 125, 126])))))
noncomputable def f_q19 : List W -> List Cell -> R W := runF 1 g_q19
theorem ok_q19 (F : Fun K "_law_signs" "_law_signs" s_q19 f fd)   : FnOk P w K mg base (CX1 P w) 1 f fd p_q19 (spW K mg 0 f_q19) :=
  fnW_of (k := 0) F sc_q19 rfl fun cdv A outer s H E hr => (sb_cons (ss_set (i := 0) sc_q19.nd rfl (Or.inl rfl) s_str) (sb_one (ss_ret (s_op w_add (s_var 0) s_str))))
noncomputable def g_q20 : FS := (xSeq (xSet 1 (eLst (aCons (eIsE ti_ValueError (eVar 0)) (aCons (eIsE ti_NoTree (eVar 0)) (aCons (eIsE ti_NoStatement (eVar 0)) aNil))))) (xSeq (xSet 1 (e2 wAdd (eVar 1) (eLst (aCons (eIsE ti_NoPlace (eVar 0)) (aCons (eIsE ti_NoNumber (eVar 0)) (aCons (eIsE ti_TooGreat (eVar 0)) aNil)))))) (xSeq (xSet 1 (e2 wAdd (eVar 1) (eLst (aCons (eIsE ti_NoName (eVar 0)) (aCons (eIsE ti_NoLine (eVar 0)) (aCons (eIsE ti_NothingDone (eVar 0)) aNil)))))) (xSeq (xExpr (eML mAppend (eVar 1) (aCons (eIsE ti_NothingHeld (eVar 0)) aNil))) (xRet (eCall bTuple (aCons (eVar 1) aNil)))))))
noncomputable def f_q20 : List W -> List Cell -> R W := runF 2 g_q20
theorem ok_q20 (F : Fun K "_law_kinds" "_law_kinds" s_q20 f fd) (B : Bl mg) (C : Cls K mg)  : FnOkH P w K mg base (CX1 P w) 1 f fd p_q20 (spW K mg 1 f_q20) :=
  fnH_of (k := 0) F sc_q20 rfl fun cdv A outer s H E hr => (sb_cons (ss_set (i := 1) sc_q20.nd rfl (Or.inl rfl) (s_lst (sa_cons (s_isB B.isinstance B.ValueError boot_VE C.isi_ValueError (s_var 0)) (sa_cons (C.isi_NoTree.elim fun _ h => s_isC B.isinstance h.1 h.2 (s_var 0)) (sa_cons (C.isi_NoStatement.elim fun _ h => s_isC B.isinstance h.1 h.2 (s_var 0)) sa_nil))))) (sb_cons (ss_set (i := 1) sc_q20.nd rfl (Or.inl rfl) (s_op w_add (s_var 1) (s_lst (sa_cons (C.isi_NoPlace.elim fun _ h => s_isC B.isinstance h.1 h.2 (s_var 0)) (sa_cons (C.isi_NoNumber.elim fun _ h => s_isC B.isinstance h.1 h.2 (s_var 0)) (sa_cons (C.isi_TooGreat.elim fun _ h => s_isC B.isinstance h.1 h.2 (s_var 0)) sa_nil)))))) (sb_cons (ss_set (i := 1) sc_q20.nd rfl (Or.inl rfl) (s_op w_add (s_var 1) (s_lst (sa_cons (C.isi_NoName.elim fun _ h => s_isC B.isinstance h.1 h.2 (s_var 0)) (sa_cons (C.isi_NoLine.elim fun _ h => s_isC B.isinstance h.1 h.2 (s_var 0)) (sa_cons (C.isi_NothingDone.elim fun _ h => s_isC B.isinstance h.1 h.2 (s_var 0)) sa_nil)))))) (sb_cons (ss_expr (s_ml PySem.F.slot_list_append PySem.F.type_list_append m_appendW (s_var 1) (sa_cons (C.isi_NothingHeld.elim fun _ h => s_isC B.isinstance h.1 h.2 (s_var 0)) sa_nil))) (sb_one (ss_ret (s_callTy b_tuple B.tuple boot_tuple (sa_cons (s_var 1) sa_nil))))))))
noncomputable def g_q21 : FS := (xRet (eTup (aCons (eC (.str [114, 101, 102, 117, 115, 101, 100])) (aCons (eCall bTuple (aCons (eComp [none, some 0] (itRange1 (aCons (eC (.int 10)) aNil)) (gNm 0) fYes (eOr (e2 wEq (eVar 0) (eC (.int 0))) (e2 wEq (eVar 0) (eVar 1)))) aNil)) aNil))))
noncomputable def f_q21 : List W -> List Cell -> R W := runF 1 g_q21
theorem ok_q21 (F : Fun K "_law_due_refusal" "_law_due_refusal" s_q21 f fd) (B : Bl mg)  : FnOk P w K mg base (CX1 P w) 1 f fd p_q21 (spW K mg 1 f_q21) :=
  fnW_of (k := 0) F sc_q21 rfl fun cdv A outer s H E hr => (sb_one (ss_ret (s_tup (sa_cons s_str (sa_cons (s_callTy b_tuple B.tuple boot_tuple (sa_cons (s_comp (nm := ["_law_k", "_law_at"]) (cap := [none, some 0]) (by first | rfl | kernel_rfl) rfl (si_range1 B.range (sa_cons s_int sa_nil)) (fun _ _ _ _ _ => (sg_name (i := 0) (show List.Nodup (["_law_k", "_law_at"] : List Str) from by decide +kernel) rfl (Or.inl rfl))) (fun _ _ _ _ _ => sts_nil) (fun _ _ _ _ _ => (s_or (s_cmp (w_eq hr) (s_var 0) s_int) (s_one (s_cmp (w_eq hr) (s_var 0) (s_var 1)))))) sa_nil)) sa_nil)))))
noncomputable def g_q22 : FS := (xSeq (xIf (asB (e2 wEq (eCall bLen (aCons (eVar 0) aNil)) (eC (.int 0)))) (xRet (eC (.str [45]))) xNext) (xRet (eMS mJoin (eC (.str [32])) (aCons (eComp [none, none] (itAny (eVar 0)) (gTp 2 (gsCons (gNm 0) (gsCons (gNm 1) gsNil))) fYes (e2 wAdd (e2 wIx (eC (.str [48, 49, 50, 51])) (eVar 0)) (eVar 1))) aNil))))
noncomputable def f_q22 : List W -> List Cell -> R W := runF 1 g_q22
theorem ok_q22 (F : Fun K "_law_text" "_law_text" s_q22 f fd) (B : Bl mg)  : FnOk P w K mg base (CX1 P w) 1 f fd p_q22 (spW K mg 1 f_q22) :=
  fnW_of (k := 0) F sc_q22 rfl fun cdv A outer s H E hr => (sb_cons (ss_if (st_cmp (w_eq hr) (s_callB b_len B.len PySem.boot_len (sa_cons (s_var 0) sa_nil)) s_int) (sb_one (ss_ret s_str)) sb_nil) (sb_one (ss_ret (s_ms PySem.F.slot_str_join PySem.F.type_str_join m_joinW s_str (sa_cons (s_comp (m := 0) (nm := ["_law_branches", "_law_marks_here"]) (cap := [none, none]) (by first | rfl | kernel_rfl) rfl (si_any (s_var 0)) (fun _ _ _ _ _ => (sg_tup rfl (sgs_cons (sg_name (i := 0) (show List.Nodup (["_law_branches", "_law_marks_here"] : List Str) from by decide +kernel) rfl (Or.inl rfl)) (sgs_cons (sg_name (i := 1) (show List.Nodup (["_law_branches", "_law_marks_here"] : List Str) from by decide +kernel) rfl (Or.inl rfl)) sgs_nil)))) (fun _ _ _ _ _ => sts_nil) (fun _ _ _ _ _ => (s_op w_add (s_ix s_str (s_var 0)) (s_var 1)))) sa_nil)))))
noncomputable def g_q23 : FS := (xSeq (xTry (xSet 1 (eDef 1 f_q9 (aCons (eVar 0) aNil))) cs_TrunkError 2 (xRet (eTup (aCons (eC (.str [114, 101, 102, 117, 115, 101, 100])) (aCons (eDef 1 f_q20 (aCons (eVar 2) aNil)) aNil))))) (xRet (eTup (aCons (eC (.str [116, 111, 108, 100])) (aCons (eVar 1) aNil)))))
noncomputable def f_q23 : List W -> List Cell -> R W := runF 3 g_q23
theorem ok_q23 (F : Fun K "_law_read" "_law_read" s_q23 f fd) (C : Cls K mg) (h_q20 : HasH P w K mg base 1 "_law_kinds" 1 f_q20) (h_q9 : HasW P w K mg base 5 "read_tree" 1 f_q9) : FnOk P w K mg base (CX1 P w) 6 f fd p_q23 (spW K mg 1 f_q23) :=
  fnW_of (k := 5) F sc_q23 rfl fun cdv A outer s H E hr => (sb_cons (ss_try (i := 2) C.catch_TrunkError sc_q23.nd rfl (Or.inl rfl) (fun _ _ => (sb_one (ss_set (i := 1) sc_q23.nd rfl (Or.inl rfl) (s_def h_q9 hr (by omega) (sa_cons (s_var 0) sa_nil))))) (fun _ => (sb_one (ss_ret (s_tup (sa_cons s_str (sa_cons (s_defH h_q20 (hr.h _) (by omega) (sa_cons (s_var 2) sa_nil)) sa_nil))))))) (sb_one (ss_ret (s_tup (sa_cons s_str (sa_cons (s_var 1) sa_nil))))))
noncomputable def g_q24 : FS := (xSeq (xIf (bor (asB (e2 wEq (eVar 0) (eC (.str [])))) (asB (e2 (wIn true) (e2 wIx (eVar 0) (eC (.int 0))) (eC (.str [48, 49, 50, 51]))))) (xRet (eC .non)) xNext) (xSeq (xSet 1 (eNeg (eC (.int 1)))) (xSeq (xFor (itAny (eSl (eVar 0) (oSome (eC (.int 1))) oNone)) (gNm 2) (xSeq (xSet 3 (eMS mFind (eDef 0 f_q18 aNil) (aCons (eVar 2) aNil))) (xSeq (xIf (asB (e2 wLeD (eVar 3) (eVar 1))) (xRet (eC .non)) xNext) (xSet 1 (eVar 3))))) (xRet (eTup (aCons (eCall bIntA (aCons (e2 wIx (eVar 0) (eC (.int 0))) aNil)) (aCons (eSl (eVar 0) (oSome (eC (.int 1))) oNone) aNil)))))))
noncomputable def f_q24 : List W -> List Cell -> R W := runF 4 g_q24
theorem ok_q24 (F : Fun K "_law_due_place" "_law_due_place" s_q24 f fd) (B : Bl mg) (h_q18 : HasW P w K mg base 1 "_law_letters" 0 f_q18) : FnOk P w K mg base (CX1 P w) 2 f fd p_q24 (spW K mg 1 f_q24) :=
  fnW_of (k := 1) F sc_q24 rfl fun cdv A outer s H E hr => (sb_cons (ss_if (st_w (sw_or (st_cmp (w_eq hr) (s_var 0) s_str) (sw_or1 (st_cmp (w_nin hr) (s_ix (s_var 0) s_int) s_str)))) (sb_one (ss_ret s_non)) sb_nil) (sb_cons (ss_set (i := 1) sc_q24.nd rfl (Or.inl rfl) (s_neg s_int)) (sb_cons (ss_for (si_any (s_sl (s_var 0) (so_some s_int) so_none)) (sg_name (i := 2) sc_q24.nd rfl (Or.inl rfl)) (sb_cons (ss_set (i := 3) sc_q24.nd rfl (Or.inl rfl) (s_ms PySem.F.slot_str_find PySem.F.type_str_find m_findW (s_def0 h_q18 hr (by omega)) (sa_cons (s_var 2) sa_nil))) (sb_cons (ss_if (st_cmp w_leD (s_var 3) (s_var 1)) (sb_one (ss_ret s_non)) sb_nil) (sb_one (ss_set (i := 1) sc_q24.nd rfl (Or.inl rfl) (s_var 3)))))) (sb_one (ss_ret (s_tup (sa_cons (s_callTy b_intA B.int boot_int (sa_cons (s_ix (s_var 0) s_int) sa_nil)) (sa_cons (s_sl (s_var 0) (so_some s_int) so_none) sa_nil))))))))
noncomputable def g_q25 : FS := (xSeq (xSet 1 (eCall bLen (aCons (eComp [none] (itAny (eVar 0)) (gNm 0) (asB (e2 wEq (eVar 0) (eC (.str [32])))) (eVar 0)) aNil))) (xSeq (xIf (asB (e2 wGe (eVar 1) (eC (.int 100)))) (xRet (eDef 1 f_q21 (aCons (eC (.int 5)) aNil))) xNext) (xSeq (xIf (asB (e2 wEq (eVar 0) (eC (.str [45])))) (xRet (eTup (aCons (eC (.str [116, 111, 108, 100])) (aCons (eTup aNil) aNil)))) xNext) (xSeq (xAsg (eComp [none] (itAny (eMS mSplit (eVar 0) (aCons (eC (.str [32])) aNil))) (gNm 0) fYes (eDef 1 f_q24 (aCons (eVar 0) aNil))) (gNm 2)) (xSeq (xSet 3 (eC (.int 1))) (xSeq (xFor (itDown (aCons (e2 wSub (eCall bLen (aCons (eVar 2) aNil)) (eC (.int 1))) (aCons (eNeg (eC (.int 1))) (aCons (eNeg (eC (.int 1))) aNil)))) (gNm 4) (xSeq (xIf (bor (asB (e2 wLt' (eVar 3) (eC (.int 1)))) (asB (eIsN (e2 wIx (eVar 2) (eVar 4))))) (xRet (eDef 1 f_q21 (aCons (eC (.int 1)) aNil))) xNext) (xSet 3 (e2 wAdd (e2 wSub (eVar 3) (eC (.int 1))) (e2 wFdiv (e2 wAdd (e2 wIx (e2 wIx (eVar 2) (eVar 4)) (eC (.int 0))) (eC (.int 1))) (eC (.int 2))))))) (xSeq (xIf (asB (e2 wGt (eVar 3) (eC (.int 0)))) (xRet (eDef 1 f_q21 (aCons (eC (.int 1)) aNil))) xNext) (xRet (eTup (aCons (eC (.str [116, 111, 108, 100])) (aCons (eCall bTuple (aCons (eVar 2) aNil)) aNil)))))))))))
noncomputable def f_q25 : List W -> List Cell -> R W := runF 5 g_q25
theorem ok_q25 (F : Fun K "_law_due" "_law_due" s_q25 f fd) (B : Bl mg) (h_q24 : HasW P w K mg base 2 "_law_due_place" 1 f_q24) (h_q21 : HasW P w K mg base 1 "_law_due_refusal" 1 f_q21) : FnOk P w K mg base (CX1 P w) 3 f fd p_q25 (spW K mg 1 f_q25) :=
  fnW_of (k := 2) F sc_q25 rfl fun cdv A outer s H E hr => (sb_cons (ss_set (i := 1) sc_q25.nd rfl (Or.inl rfl) (s_callB b_len B.len PySem.boot_len (sa_cons (s_comp (m := 0) (nm := ["_law_sign"]) (cap := [none]) (by first | rfl | kernel_rfl) rfl (si_any (s_var 0)) (fun _ _ _ _ _ => (sg_name (i := 0) (show List.Nodup (["_law_sign"] : List Str) from by decide +kernel) rfl (Or.inl rfl))) (fun _ _ _ _ _ => (sts_one (st_cmp (w_eq hr) (s_var 0) s_str))) (fun _ _ _ _ _ => (s_var 0))) sa_nil))) (sb_cons (ss_if (st_cmp w_ge (s_var 1) s_int) (sb_one (ss_ret (s_def h_q21 hr (by omega) (sa_cons s_int sa_nil)))) sb_nil) (sb_cons (ss_if (st_cmp (w_eq hr) (s_var 0) s_str) (sb_one (ss_ret (s_tup (sa_cons s_str (sa_cons (s_tup sa_nil) sa_nil))))) sb_nil) (sb_cons (ss_setComp (sg_name (i := 2) sc_q25.nd rfl (Or.inl rfl)) (m := 0) (nm := ["_law_word"]) (cap := [none]) (by first | rfl | kernel_rfl) rfl (si_any (s_ms PySem.F.slot_str_split PySem.F.type_str_split m_splitW (s_var 0) (sa_cons s_str sa_nil))) (fun _ _ _ _ _ => (sg_name (i := 0) (show List.Nodup (["_law_word"] : List Str) from by decide +kernel) rfl (Or.inl rfl))) (fun _ _ _ _ _ => sts_nil) (fun _ _ _ _ _ => (s_def h_q24 hr (by omega) (sa_cons (s_var 0) sa_nil)))) (sb_cons (ss_set (i := 3) sc_q25.nd rfl (Or.inl rfl) s_int) (sb_cons (ss_for (si_down B.range (sa_cons (s_op w_sub (s_callB b_len B.len PySem.boot_len (sa_cons (s_var 2) sa_nil)) s_int) (sa_cons (s_neg s_int) (sa_cons (s_neg s_int) sa_nil)))) (sg_name (i := 4) sc_q25.nd rfl (Or.inl rfl)) (sb_cons (ss_if (st_w (sw_or (st_cmp w_lt (s_var 3) s_int) (sw_or1 (st_isN (s_ix (s_var 2) (s_var 4)))))) (sb_one (ss_ret (s_def h_q21 hr (by omega) (sa_cons s_int sa_nil)))) sb_nil) (sb_one (ss_set (i := 3) sc_q25.nd rfl (Or.inl rfl) (s_op w_add (s_op w_sub (s_var 3) s_int) (s_op w_fdiv (s_op w_add (s_ix (s_ix (s_var 2) (s_var 4)) s_int) s_int) s_int)))))) (sb_cons (ss_if (st_cmp w_gt (s_var 3) s_int) (sb_one (ss_ret (s_def h_q21 hr (by omega) (sa_cons s_int sa_nil)))) sb_nil) (sb_one (ss_ret (s_tup (sa_cons s_str (sa_cons (s_callTy b_tuple B.tuple boot_tuple (sa_cons (s_var 2) sa_nil)) sa_nil))))))))))))
noncomputable def g_q26 : FS := (xSeq (xSet 2 (e2 wMod (e2 wAdd (e2 wIx (eVar 1) (eC (.int 1))) (e2 wMulA (eC (.int 64)) (e2 wIx (eVar 1) (eC (.int 2))))) (e2 wAdd (eCall bLen (aCons (eVar 0) aNil)) (eC (.int 1))))) (xSeq (xSet 3 (e2 wIx (eDef 0 f_q19 aNil) (e2 wMod (e2 wAdd (e2 wIx (eVar 1) (eC (.int 3))) (e2 wMulA (eC (.int 64)) (e2 wIx (eVar 1) (eC (.int 4))))) (eCall bLen (aCons (eDef 0 f_q19 aNil) aNil))))) (xSeq (xSet 4 (e2 wMod (e2 wIx (eVar 1) (eC (.int 0))) (eC (.int 10)))) (xSeq (xSet 5 (eMS mSplit (eVar 0) (aCons (eC (.str [32])) aNil))) (xSeq (xSet 6 (e2 wMod (e2 wAdd (e2 wIx (eVar 1) (eC (.int 5))) (e2 wMulA (eC (.int 64)) (e2 wIx (eVar 1) (eC (.int 6))))) (eCall bLen (aCons (eVar 5) aNil)))) (xSeq (xIf (asB (e2 wEq (eVar 4) (eC (.int 1)))) (xRet (e2 wAdd (e2 wAdd (eSl (eVar 0) oNone (oSome (eVar 2))) (eVar 3)) (eSl (eVar 0) (oSome (eVar 2)) oNone))) xNext) (xSeq (xIf (asB (e2 wEq (eVar 4) (eC (.int 2)))) (xRet (e2 wAdd (eSl (eVar 0) oNone (oSome (eVar 2))) (eSl (eVar 0) (oSome (e2 wAdd (eVar 2) (eC (.int 1)))) oNone))) xNext) (xSeq (xIf (asB (e2 wEq (eVar 4) (eC (.int 3)))) (xRet (e2 wAdd (e2 wAdd (eSl (eVar 0) oNone (oSome (eVar 2))) (eVar 3)) (eSl (eVar 0) (oSome (e2 wAdd (eVar 2) (eC (.int 1)))) oNone))) xNext) (xSeq (xIf (asB (e2 wEq (eVar 4) (eC (.int 4)))) (xSeq (xSet 7 (e2 wIx (eVar 5) (eVar 6))) (xSeq (xPut (eVar 5) (eVar 6) (e2 wIx (eVar 5) (e2 wMod (eVar 2) (eCall bLen (aCons (eVar 5) aNil)))) wSetL) (xSeq (xPut (eVar 5) (e2 wMod (eVar 2) (eCall bLen (aCons (eVar 5) aNil))) (eVar 7) wSetL) (xRet (eMS mJoin (eC (.str [32])) (aCons (eVar 5) aNil)))))) xNext) (xSeq (xIf (asB (e2 wEq (eVar 4) (eC (.int 5)))) (xRet (e2 wAdd (e2 wAdd (eSl (eVar 0) oNone (oSome (eVar 2))) (e2 wIx (eDef 0 f_q18 aNil) (e2 wMod (e2 wIx (eVar 1) (eC (.int 3))) (eC (.int 52))))) (eSl (eVar 0) (oSome (eVar 2)) oNone))) xNext) (xSeq (xIf (asB (e2 wEq (eVar 4) (eC (.int 6)))) (xRet (e2 wAdd (e2 wAdd (e2 wIx (eLst (aCons (eC (.str [])) (aCons (eC (.str [32])) aNil))) (e2 wMod (e2 wIx (eVar 1) (eC (.int 3))) (eC (.int 2)))) (eVar 0)) (e2 wIx (eLst (aCons (eC (.str [])) (aCons (eC (.str [32])) aNil))) (e2 wMod (e2 wIx (eVar 1) (eC (.int 4))) (eC (.int 2)))))) xNext) (xSeq (xIf (asB (e2 wEq (eVar 4) (eC (.int 7)))) (xSeq (xSet 8 (eLst (wStrs [[], [45], [32, 45], [45, 32], [45, 45], [48, 32, 48], [49], [52], [48, 48], [45, 48], [48, 32, 45], [65], [48, 32, 32, 49], [51], [48, 32, 48, 32, 51, 32], [32]]))) (xRet (e2 wIx (eVar 8) (e2 wMod (e2 wIx (eVar 1) (eC (.int 3))) (eC (.int 16)))))) xNext) (xRet (eVar 0))))))))))))))
noncomputable def f_q26 : List W -> List Cell -> R W := runF 9 g_q26
theorem ok_q26 (F : Fun K "_law_spoilt" "_law_spoilt" s_q26 f fd) (B : Bl mg) (h_q18 : HasW P w K mg base 1 "_law_letters" 0 f_q18) (h_q19 : HasW P w K mg base 1 "_law_signs" 0 f_q19) : FnOk P w K mg base (CX1 P w) 2 f fd p_q26 (spW K mg 2 f_q26) :=
  fnW_of (k := 1) F sc_q26 rfl fun cdv A outer s H E hr => (sb_cons (ss_set (i := 2) sc_q26.nd rfl (Or.inl rfl) (s_op w_mod (s_op w_add (s_ix (s_var 1) s_int) (s_op w_mulA s_int (s_ix (s_var 1) s_int))) (s_op w_add (s_callB b_len B.len PySem.boot_len (sa_cons (s_var 0) sa_nil)) s_int))) (sb_cons (ss_set (i := 3) sc_q26.nd rfl (Or.inl rfl) (s_ix (s_def0 h_q19 hr (by omega)) (s_op w_mod (s_op w_add (s_ix (s_var 1) s_int) (s_op w_mulA s_int (s_ix (s_var 1) s_int))) (s_callB b_len B.len PySem.boot_len (sa_cons (s_def0 h_q19 hr (by omega)) sa_nil))))) (sb_cons (ss_set (i := 4) sc_q26.nd rfl (Or.inl rfl) (s_op w_mod (s_ix (s_var 1) s_int) s_int)) (sb_cons (ss_set (i := 5) sc_q26.nd rfl (Or.inl rfl) (s_ms PySem.F.slot_str_split PySem.F.type_str_split m_splitW (s_var 0) (sa_cons s_str sa_nil))) (sb_cons (ss_set (i := 6) sc_q26.nd rfl (Or.inl rfl) (s_op w_mod (s_op w_add (s_ix (s_var 1) s_int) (s_op w_mulA s_int (s_ix (s_var 1) s_int))) (s_callB b_len B.len PySem.boot_len (sa_cons (s_var 5) sa_nil)))) (sb_cons (ss_if (st_cmp (w_eq hr) (s_var 4) s_int) (sb_one (ss_ret (s_op w_add (s_op w_add (s_sl (s_var 0) so_none (so_some (s_var 2))) (s_var 3)) (s_sl (s_var 0) (so_some (s_var 2)) so_none)))) sb_nil) (sb_cons (ss_if (st_cmp (w_eq hr) (s_var 4) s_int) (sb_one (ss_ret (s_op w_add (s_sl (s_var 0) so_none (so_some (s_var 2))) (s_sl (s_var 0) (so_some (s_op w_add (s_var 2) s_int)) so_none)))) sb_nil) (sb_cons (ss_if (st_cmp (w_eq hr) (s_var 4) s_int) (sb_one (ss_ret (s_op w_add (s_op w_add (s_sl (s_var 0) so_none (so_some (s_var 2))) (s_var 3)) (s_sl (s_var 0) (so_some (s_op w_add (s_var 2) s_int)) so_none)))) sb_nil) (sb_cons (ss_if (st_cmp (w_eq hr) (s_var 4) s_int) (sb_cons (ss_set (i := 7) sc_q26.nd rfl (Or.inl rfl) (s_ix (s_var 5) (s_var 6))) (sb_cons (ss_put w_setL (s_ix (s_var 5) (s_op w_mod (s_var 2) (s_callB b_len B.len PySem.boot_len (sa_cons (s_var 5) sa_nil)))) (s_var 5) (s_var 6)) (sb_cons (ss_put w_setL (s_var 7) (s_var 5) (s_op w_mod (s_var 2) (s_callB b_len B.len PySem.boot_len (sa_cons (s_var 5) sa_nil)))) (sb_one (ss_ret (s_ms PySem.F.slot_str_join PySem.F.type_str_join m_joinW s_str (sa_cons (s_var 5) sa_nil))))))) sb_nil) (sb_cons (ss_if (st_cmp (w_eq hr) (s_var 4) s_int) (sb_one (ss_ret (s_op w_add (s_op w_add (s_sl (s_var 0) so_none (so_some (s_var 2))) (s_ix (s_def0 h_q18 hr (by omega)) (s_op w_mod (s_ix (s_var 1) s_int) s_int))) (s_sl (s_var 0) (so_some (s_var 2)) so_none)))) sb_nil) (sb_cons (ss_if (st_cmp (w_eq hr) (s_var 4) s_int) (sb_one (ss_ret (s_op w_add (s_op w_add (s_ix (s_lst (sa_cons s_str (sa_cons s_str sa_nil))) (s_op w_mod (s_ix (s_var 1) s_int) s_int)) (s_var 0)) (s_ix (s_lst (sa_cons s_str (sa_cons s_str sa_nil))) (s_op w_mod (s_ix (s_var 1) s_int) s_int))))) sb_nil) (sb_cons (ss_if (st_cmp (w_eq hr) (s_var 4) s_int) (sb_cons (ss_set (i := 8) sc_q26.nd rfl (Or.inl rfl) (s_lst (sa_strs (.cons (.cons (.cons (.cons (.cons (.cons (.cons (.cons (.cons (.cons (.cons (.cons (.cons (.cons (.cons (.cons .nil))))))))))))))))))) (sb_one (ss_ret (s_ix (s_var 8) (s_op w_mod (s_ix (s_var 1) s_int) s_int))))) sb_nil) (sb_one (ss_ret (s_var 0)))))))))))))))
noncomputable def g_q27 : FS := (xSeq (xSet 1 (eDef 3 f_q15 (aCons (eDef 2 f_q10 (aCons (eVar 0) (aCons (eC (.int 0)) aNil))) (aCons (eC (.int 4)) (aCons (eC (.int 100003)) aNil))))) (xSeq (xSet 2 (eDef 3 f_q12 (aCons (eDef 2 f_q10 (aCons (eVar 0) (aCons (eC (.int 1)) aNil))) (aCons (eDef 3 f_q13 (aCons (eDef 2 f_q10 (aCons (eVar 0) (aCons (eC (.int 2)) aNil))) (aCons (eC (.int 200017)) (aCons (eC (.int 100)) aNil)))) (aCons (eC (.int 300007)) aNil))))) (xSeq (xSet 3 (eDef 3 f_q12 (aCons (eDef 2 f_q10 (aCons (eVar 0) (aCons (eC (.int 3)) aNil))) (aCons (eC (.int 10)) (aCons (eC (.int 400009)) aNil))))) (xSeq (xSet 4 (eDef 2 f_q26 (aCons (eDef 1 f_q22 (aCons (eDef 3 f_q17 (aCons (eVar 2) (aCons (eVar 1) (aCons (eC (.int 100)) aNil)))) aNil)) (aCons (eVar 3) aNil)))) (xSeq (xIf (asB (e2 wEq (e2 wMod (e2 wIx (eVar 3) (eC (.int 7))) (eC (.int 5))) (eC (.int 1)))) (xSet 4 (e2 wAdd (eC (.str [48])) (eMS mJoin (eC (.str [])) (aCons (eComp [none] (itRange1 (aCons (e2 wAdd (eC (.int 98)) (e2 wMod (e2 wIx (eVar 3) (eC (.int 8))) (eC (.int 4)))) aNil)) (gNm 0) fYes (eC (.str [32, 49]))) aNil)))) xNext) (xSeq (xIf (asB (e2 wEq (e2 wMod (e2 wIx (eVar 3) (eC (.int 7))) (eC (.int 5))) (eC (.int 2)))) (xSeq (xSet 5 (eCall bLen (aCons (eComp [none] (itAny (eVar 4)) (gNm 0) (asB (e2 wEq (eVar 0) (eC (.str [32])))) (eVar 0)) aNil))) (xSet 4 (e2 wAdd (eVar 4) (eMS mJoin (eC (.str [])) (aCons (eComp [none] (itRange1 (aCons (e2 wSub (e2 wAdd (eC (.int 98)) (e2 wMod (e2 wIx (eVar 3) (eC (.int 8))) (eC (.int 4)))) (eCall bMin (aCons (eVar 5) (aCons (eC (.int 98)) aNil)))) aNil)) (gNm 0) fYes (eC (.str [32]))) aNil))))) xNext) (xSeq (xSet 6 (eDef 1 f_q25 (aCons (eVar 4) aNil))) (xRet (eAnd (eDef 2 (f_q14 40) (aCons (eDef 1 f_q23 (aCons (eVar 4) aNil)) (aCons (eVar 6) aNil))) (eDef 2 (f_q14 40) (aCons (eDef 1 f_q23 (aCons (eVar 4) aNil)) (aCons (eVar 6) aNil))))))))))))
noncomputable def f_q27 : List W -> List Cell -> R W := runF 7 g_q27
theorem ok_q27 (F : Fun K "law" "law" s_q27 f fd) (B : Bl mg) (h_q10 : HasW P w K mg base 1 "_law_cell" 2 f_q10) (h_q12 : HasW P w K mg base 2 "_law_draws" 3 f_q12) (h_q25 : HasW P w K mg base 3 "_law_due" 1 f_q25) (h_q15 : HasW P w K mg base 3 "_law_pool" 3 f_q15) (h_q23 : HasW P w K mg base 6 "_law_read" 1 f_q23) (h_q14 : HasW P w K mg base 40 "_law_same" 2 (f_q14 40)) (h_q13 : HasW P w K mg base 3 "_law_size" 3 f_q13) (h_q26 : HasW P w K mg base 2 "_law_spoilt" 2 f_q26) (h_q22 : HasW P w K mg base 1 "_law_text" 1 f_q22) (h_q17 : HasW P w K mg base 2 "_law_wood" 3 f_q17) : FnOk P w K mg base (CX1 P w) 41 f fd p_q27 (spW K mg 1 f_q27) :=
  fnW_of (k := 40) F sc_q27 rfl fun cdv A outer s H E hr => (sb_cons (ss_set (i := 1) sc_q27.nd rfl (Or.inl rfl) (s_def h_q15 hr (by omega) (sa_cons (s_def h_q10 hr (by omega) (sa_cons (s_var 0) (sa_cons s_int sa_nil))) (sa_cons s_int (sa_cons s_int sa_nil))))) (sb_cons (ss_set (i := 2) sc_q27.nd rfl (Or.inl rfl) (s_def h_q12 hr (by omega) (sa_cons (s_def h_q10 hr (by omega) (sa_cons (s_var 0) (sa_cons s_int sa_nil))) (sa_cons (s_def h_q13 hr (by omega) (sa_cons (s_def h_q10 hr (by omega) (sa_cons (s_var 0) (sa_cons s_int sa_nil))) (sa_cons s_int (sa_cons s_int sa_nil)))) (sa_cons s_int sa_nil))))) (sb_cons (ss_set (i := 3) sc_q27.nd rfl (Or.inl rfl) (s_def h_q12 hr (by omega) (sa_cons (s_def h_q10 hr (by omega) (sa_cons (s_var 0) (sa_cons s_int sa_nil))) (sa_cons s_int (sa_cons s_int sa_nil))))) (sb_cons (ss_set (i := 4) sc_q27.nd rfl (Or.inl rfl) (s_def h_q26 hr (by omega) (sa_cons (s_def h_q22 hr (by omega) (sa_cons (s_def h_q17 hr (by omega) (sa_cons (s_var 2) (sa_cons (s_var 1) (sa_cons s_int sa_nil)))) sa_nil)) (sa_cons (s_var 3) sa_nil)))) (sb_cons (ss_if (st_cmp (w_eq hr) (s_op w_mod (s_ix (s_var 3) s_int) s_int) s_int) (sb_one (ss_set (i := 4) sc_q27.nd rfl (Or.inl rfl) (s_op w_add s_str (s_ms PySem.F.slot_str_join PySem.F.type_str_join m_joinW s_str (sa_cons (s_comp (m := 0) (nm := ["_law_k"]) (cap := [none]) (by first | rfl | kernel_rfl) rfl (si_range1 B.range (sa_cons (s_op w_add s_int (s_op w_mod (s_ix (s_var 3) s_int) s_int)) sa_nil)) (fun _ _ _ _ _ => (sg_name (i := 0) (show List.Nodup (["_law_k"] : List Str) from by decide +kernel) rfl (Or.inl rfl))) (fun _ _ _ _ _ => sts_nil) (fun _ _ _ _ _ => s_str)) sa_nil))))) sb_nil) (sb_cons (ss_if (st_cmp (w_eq hr) (s_op w_mod (s_ix (s_var 3) s_int) s_int) s_int) (sb_cons (ss_set (i := 5) sc_q27.nd rfl (Or.inl rfl) (s_callB b_len B.len PySem.boot_len (sa_cons (s_comp (m := 0) (nm := ["_law_sign"]) (cap := [none]) (by first | rfl | kernel_rfl) rfl (si_any (s_var 4)) (fun _ _ _ _ _ => (sg_name (i := 0) (show List.Nodup (["_law_sign"] : List Str) from by decide +kernel) rfl (Or.inl rfl))) (fun _ _ _ _ _ => (sts_one (st_cmp (w_eq hr) (s_var 0) s_str))) (fun _ _ _ _ _ => (s_var 0))) sa_nil))) (sb_one (ss_set (i := 4) sc_q27.nd rfl (Or.inl rfl) (s_op w_add (s_var 4) (s_ms PySem.F.slot_str_join PySem.F.type_str_join m_joinW s_str (sa_cons (s_comp (m := 0) (nm := ["_law_k"]) (cap := [none]) (by first | rfl | kernel_rfl) rfl (si_range1 B.range (sa_cons (s_op w_sub (s_op w_add s_int (s_op w_mod (s_ix (s_var 3) s_int) s_int)) (s_callB b_min B.min boot_min (sa_cons (s_var 5) (sa_cons s_int sa_nil)))) sa_nil)) (fun _ _ _ _ _ => (sg_name (i := 0) (show List.Nodup (["_law_k"] : List Str) from by decide +kernel) rfl (Or.inl rfl))) (fun _ _ _ _ _ => sts_nil) (fun _ _ _ _ _ => s_str)) sa_nil)))))) sb_nil) (sb_cons (ss_set (i := 6) sc_q27.nd rfl (Or.inl rfl) (s_def h_q25 hr (by omega) (sa_cons (s_var 4) sa_nil))) (sb_one (ss_ret (s_and (s_def h_q14 hr (by omega) (sa_cons (s_def h_q23 hr (by omega) (sa_cons (s_var 4) sa_nil)) (sa_cons (s_var 6) sa_nil))) (s_one (s_def h_q14 hr (by omega) (sa_cons (s_def h_q23 hr (by omega) (sa_cons (s_var 4) sa_nil)) (sa_cons (s_var 6) sa_nil))))))))))))))
end
end P
set_option Elab.async false
set_option linter.all false
set_option maxRecDepth 100000
set_option maxHeartbeats 4000000
namespace P
open PySem L2
theorem mod_at {α : Type} (ns : List α) (hl : 0 < ns.length) (k : Int) : ∃ c ∈ ns, atI ns (k % ((ns.length : Nat) : Int)) = some c := by
  have h0 : 0 <= k % ((ns.length : Nat) : Int) := Int.emod_nonneg _ (by omega)
  have h1 : k % ((ns.length : Nat) : Int) < ns.length := Int.emod_lt_of_pos _ (by omega)
  obtain ⟨m, hm⟩ := Int.eq_ofNat_of_zero_le h0
  rw [hm] at h1 ⊢
  have h2 : m < ns.length := by omega
  exact ⟨ns[m], List.getElem_mem _, at_nat (by simp [h2])⟩
theorem cell_ok {n : Nat} {st : List Cell} {ns : List Int} (h : st[n]? = some (.ro (ns.map W.int))) (k : Int) : ∃ c, f_q10 [.loc n, .int k] st = .ok (.int c) st := by
  by_cases hn : ns = []
  · subst hn
    refine ⟨0, ?_⟩
    apply runF_self; apply k_seqR; apply k_if_t
    · (repeat' (first | with_reducible exact o_lenL (lstOf_r h) | walk_at "ev1"))
    · (walk_at "evs")
  · have hl : 0 < ns.length := List.length_pos_iff.mpr hn
    obtain ⟨c, hc, e⟩ := mod_at (ns.map W.int) (by simpa using hl) k
    obtain ⟨c, _, rfl⟩ := List.mem_map.mp hc
    refine ⟨c, ?_⟩
    apply runF_self; apply k_seq
    · apply k_if_f
      · (repeat' (first | with_reducible exact o_lenL (lstOf_r h) | walk_at "ev1"))
        rw [beq_eq_false_iff_ne, List.length_map]; omega
      · (walk_at "evs")
    · (repeat' (first | with_reducible exact o_lenL (lstOf_r h) | with_reducible exact o_ixL (lstOf_r h) e | walk_at "ev1"))
      rw [List.length_map]; omega
theorem mixed_ok (c k s : Int) (hk : -(2 ^ 64) < k /\ k < 2 ^ 64) (st : List Cell) : ∃ r, 0 <= r /\ f_q11 [.int c, .int k, .int s] st = .ok (.int r) st := by
  have big : ∀ q : Int, 0 <= q % 2147483647 /\ q % 2147483647 < 2147483647 := fun q => ⟨Int.emod_nonneg _ (by decide), Int.emod_lt_of_pos _ (by decide)⟩
  refine ⟨(((c + 7 * k * k + 13 * k + s) * 69621 % 2147483647 * ((c + 7 * k * k + 13 * k + s) * 69621 % 2147483647 / 1009 + 3) + 31 * k + s) % 2147483629 * 48271) % 1000000007, Int.emod_nonneg _ (by decide), ?_⟩
  apply runF_self; apply k_seq
  · (walk_at "evs") <;> first | exact .inl (by decide) | exact .inr (by decide) | exact .inr hk
  · (walk_at "evs") <;> first | exact .inl (by decide) | exact .inr (by decide) | exact .inl (by have := big ((c + 7 * k * k + 13 * k + s) * 69621); omega)
theorem draws_ok (c s : Int) (m : Nat) (hm : m <= 1000) (st : List Cell) : ∃ ds : List Int, ds.length = m /\ (∀ d ∈ ds, 0 <= d) /\ f_q12 [.int c, .int m, .int s] st = .ok (.loc st.length) (st ++ [.lst (ds.map W.int)]) := by
  suffices hh : Sat (rtP fun w st' => ∃ j x, w = .loc (st.length + j) /\ st' = st ++ x /\ j = 0 /\ ∃ ds : List Int, x = [.lst (ds.map W.int)] /\ ds.length = m /\ ∀ d ∈ ds, 0 <= d) (g_q12 ([W.int c, .int m, .int s].map some ++ List.replicate (6 - 3) none) st) by
    obtain ⟨j, x, ⟨rfl, ds, rfl, h1, h2⟩, e⟩ := run_new hh
    exact ⟨ds, h1, h2, e⟩
  apply sat_seq
  · (walk_at "evs")
  apply sat_seq
  · (walk_at "evs")
  have main : ∀ r0 : Int, Sat (rtP fun w st' => ∃ j x, w = .loc (st.length + j) /\ st' = st ++ x /\ j = 0 /\ ∃ ds : List Int, x = [.lst (ds.map W.int)] /\ ds.length = m /\ ∀ d ∈ ds, 0 <= d)
      (xSeq (xFor (itRange1 (aCons (eVar 1) aNil)) (gNm 5) (xIf (asB (e2 wGt (eVar 4) (eC (.int 0)))) (xSeq (xExpr (eML mAppend (eVar 3) (aCons (e2 wMod (eVar 4) (eC (.int 64))) aNil))) (xSet 4 (e2 wFdiv (eVar 4) (eC (.int 64))))) (xExpr (eML mAppend (eVar 3) (aCons (eDef 3 f_q11 (aCons (eVar 0) (aCons (eVar 5) (aCons (eVar 2) aNil)))) aNil))))) (xRet (eVar 3))
      [some (.int c), some (.int m), some (.int s), some (.loc st.length), some (.int r0), none] (st ++ [.lst []])) := by
    intro r0
    refine sat_for (fun i ρ st' => ∃ (r : Int) (o : Option W) (ds : List Int), ρ = [some (.int c), some (.int m), some (.int s), some (.loc st.length), some (.int r), o] /\ st' = st ++ [.lst (ds.map W.int)] /\ ds.length = i /\ ∀ d ∈ ds, 0 <= d) (i_range1 (by (walk_at "evs"); rfl) (by omega))
      ⟨r0, none, [], rfl, rfl, rfl, by simp⟩ (fun _ _ _ _ => trivial) ?_ ?_
    · rintro i w ρ st' hw ⟨r, o, ds, rfl, rfl, hd, h⟩
      obtain ⟨hi, rfl⟩ := rangeW_at hw
      refine ⟨_, rfl, ?_⟩
      have hcell : (st ++ [Cell.lst (ds.map W.int)])[st.length]? = some (.lst (ds.map W.int)) := by rw [cell_at0]; rfl
      have hsh : (ds.map W.int).length < LIM := by rw [List.length_map, hd]; show i < 1000000; omega
      by_cases hr : 0 < r
      · apply sat_t
        · (walk_at "evs"); simpa using hr
        apply sat_seq
        · (repeat' (first | with_reducible exact k_isLst hcell | with_reducible exact o_app hcell hsh | walk_at "ev1"))
        rw [cell_set0]
        apply sat_eq
        · (walk_at "evs")
        · refine ⟨_, _, rfl, r / 64, _, ds ++ [r % 64], rfl, by simp, by simp [hd], fun d hd' => ?_⟩
          rcases List.mem_append.mp hd' with hd' | hd'
          · exact h d hd'
          · rw [List.mem_singleton.mp hd']; exact Int.emod_nonneg _ (by decide)
      · obtain ⟨q, hq, e⟩ := mixed_ok c (0 + i) s (by omega) (st ++ [Cell.lst (ds.map W.int)])
        apply sat_f
        · (walk_at "evs"); simpa using hr
        apply sat_eq
        · (repeat' (first | with_reducible exact k_isLst hcell | with_reducible exact o_app hcell hsh | with_reducible exact e | walk_at "ev1"))
        · refine ⟨_, _, rfl, r, _, ds ++ [q], rfl, by rw [cell_set0]; simp, by simp [hd], fun d hd' => ?_⟩
          rcases List.mem_append.mp hd' with hd' | hd'
          · exact h d hd'
          · rw [List.mem_singleton.mp hd']; exact hq
    · rintro ρ st' ⟨r, o, ds, rfl, rfl, hd, h⟩
      apply sat_ret
      · (walk_at "evs")
      · exact ⟨_, _, rfl, 0, _, rfl, rfl, rfl, ds, rfl, by rw [hd]; simpa using rangeW_len 0 m, h⟩
  by_cases hc : (10 : Int) ^ 18 <= c
  · apply sat_seq
    · apply k_if_t
      · (walk_at "evs") <;> simpa using hc
      · (walk_at "evs")
    · exact main c
  · apply sat_seq
    · apply k_if_f
      · (walk_at "evs") <;> simpa using hc
      · (walk_at "evs")
    · exact main 0
theorem pool_ok (c s : Int) (m : Nat) (hm : m <= 50) (st : List Cell) : ∃ l : List Nat, l.length = m /\ (∀ d ∈ l, d ∈ LL) /\ f_q15 [.int c, .int m, .int s] st = .ok (.str l) st := by
  suffices hh : Sat (rtP fun w st' => (∃ x, st' = st ++ x) /\ undWs st.length [w] = true /\ ∃ l : List Nat, w = .str l /\ l.length = m /\ ∀ d ∈ l, d ∈ LL) (g_q15 ([W.int c, .int m, .int s].map some ++ List.replicate (7 - 3) none) st) by
    obtain ⟨w, ⟨l, rfl, h1, h2⟩, e⟩ := run_val hh
    exact ⟨l, h1, h2, e⟩
  obtain ⟨ds, h1, h2, e⟩ := draws_ok c s m (by omega) st
  apply sat_seq
  · (walk_at "evs")
  apply sat_seq
  · (walk_at "evs")
  have hcell : lstOf (st ++ [Cell.lst (ds.map W.int)]) st.length = some (ds.map W.int) := lstOf_l (by rw [cell_at0]; rfl)
  refine sat_for (fun i ρ st' => ∃ (r f : List Nat) (o o2 : Option W), ρ = [some (.int c), some (.int m), some (.int s), some (.str r), some (.str f), o, o2] /\ st' = st ++ [.lst (ds.map W.int)] /\ f.length = i /\ r.length + i = 52 /\ (∀ d ∈ r, d ∈ LL) /\ ∀ d ∈ f, d ∈ LL) (i_any_l (by (repeat' (first | with_reducible exact e | walk_at "ev1"))) hcell)
    ⟨LL, [], none, none, rfl, rfl, rfl, rfl, fun _ h => h, by simp⟩ (fun i ρ st' h => ?_) ?_ ?_
  · obtain ⟨r, f, o, o2, rfl, rfl, _⟩ := h
    exact hcell
  · rintro i w ρ st' hw ⟨r, f, o, o2, rfl, rfl, hf, hr, hrl, hfl⟩
    obtain ⟨d, hd, rfl⟩ : ∃ d, ds[i]? = some d /\ w = .int d := by
      simp only [List.getElem?_map, Option.map_eq_some_iff] at hw
      obtain ⟨d, h1, rfl⟩ := hw
      exact ⟨d, h1, rfl⟩
    have hi : i < m := by rw [<- h1]; exact (List.getElem?_eq_some_iff.mp hd).1
    obtain ⟨q, hq, eq⟩ := mod_nat (q := d) (n := r.length) (by omega)
    have hL : r.length <= LIM := by show _ <= 1000000; omega
    have hLf : f.length <= LIM := by show _ <= 1000000; omega
    have hat : atI r (d % (r.length : Int)) = some r[q] := by rw [eq]; exact at_nat (by simp [hq])
    refine ⟨_, rfl, ?_⟩
    apply sat_seq
    · (repeat' (first | with_reducible exact o_lenS hL | walk_at "ev1"))
      show 0 < (r.length : Int); omega
    apply sat_seq
    · have ha : f.length + [r[q]].length <= LIM := by show _ + 1 <= 1000000; omega
      (repeat' (first | with_reducible exact o_ixS hL hat | with_reducible exact o_addS ha | walk_at "ev1"))
    apply sat_eq
    · (repeat' (first | with_reducible exact o_slS hL | walk_at "ev1"))
      rw [eq, cut_pre (by omega), show ((q : Int) + 1) = ((q + 1 : Nat) : Int) from rfl, cut_suf (by omega), List.length_take, List.length_drop]
      show _ <= 1000000; omega
    · refine ⟨_, _, rfl, _, _, _, _, rfl, rfl, by simp [hf], ?_, ?_, ?_⟩
      · rw [eq, cut_pre (by omega), show ((q : Int) + 1) = ((q + 1 : Nat) : Int) from rfl, cut_suf (by omega), List.length_append, List.length_take, List.length_drop]
        omega
      · intro d hd
        rw [eq, cut_pre (by omega), show ((q : Int) + 1) = ((q + 1 : Nat) : Int) from rfl, cut_suf (by omega)] at hd
        rcases List.mem_append.mp hd with hd | hd
        · exact hrl _ (List.mem_of_mem_take hd)
        · exact hrl _ (List.mem_of_mem_drop hd)
      · intro d hd
        rcases List.mem_append.mp hd with hd | hd
        · exact hfl _ hd
        · rw [List.mem_singleton.mp hd]; exact hrl _ (List.getElem_mem _)
  · rintro ρ st' ⟨r, f, o, o2, rfl, rfl, hf, hr, hrl, hfl⟩
    apply sat_ret
    · (walk_at "evs")
    · exact ⟨_, _, rfl, ⟨_, rfl⟩, rfl, f, rfl, by rw [hf]; simpa using h1, hfl⟩
end P
set_option Elab.async false
set_option linter.all false
set_option maxRecDepth 100000
set_option maxHeartbeats 4000000
namespace P
open PySem L2
theorem lsize_ok (c s : Int) (m : Nat) (hm : m <= 1000) (st : List Cell) : ∃ q : Nat, q <= m + 7 /\ f_q13 [.int c, .int s, .int m] st = .ok (.int q) st := by
  suffices hh : Sat (rtP fun w st' => (∃ x, st' = st ++ x) /\ undWs st.length [w] = true /\ ∃ q : Nat, w = .int q /\ q <= m + 7) (g_q13 ([W.int c, .int s, .int m].map some ++ List.replicate (5 - 3) none) st) by
    obtain ⟨w, ⟨q, rfl, h1⟩, e⟩ := run_val hh
    exact ⟨q, h1, e⟩
  obtain ⟨ds, hl, hp, e1⟩ := draws_ok c s 3 (by omega) st
  have e1 : f_q12 [.int c, .int 3, .int s] st = _ := e1
  obtain ⟨d0, d1, d2, rfl⟩ : ∃ d0 d1 d2, ds = [d0, d1, d2] := by
    match ds, hl with
    | [d0, d1, d2], _ => exact ⟨_, _, _, rfl⟩
  have hc : (st ++ [Cell.lst ([d0, d1, d2].map W.int)])[st.length]? = some (.lst ([d0, d1, d2].map W.int)) := by rw [cell_at0]; rfl
  have i0 : wIx (.loc st.length) (.int 0) (st ++ [Cell.lst ([d0, d1, d2].map W.int)]) = .ok (.int d0) (st ++ [Cell.lst ([d0, d1, d2].map W.int)]) := o_ixL (lstOf_l hc) rfl
  have i1 : wIx (.loc st.length) (.int 1) (st ++ [Cell.lst ([d0, d1, d2].map W.int)]) = .ok (.int d1) (st ++ [Cell.lst ([d0, d1, d2].map W.int)]) := o_ixL (lstOf_l hc) rfl
  have i2 : wIx (.loc st.length) (.int 2) (st ++ [Cell.lst ([d0, d1, d2].map W.int)]) = .ok (.int d2) (st ++ [Cell.lst ([d0, d1, d2].map W.int)]) := o_ixL (lstOf_l hc) rfl
  apply sat_seq
  · (walk_at "evs")
  obtain ⟨q, hq, eq⟩ := mod_nat (q := d0 + 64 * d1) (n := m + 1) (by omega)
  have eq : (d0 + 64 * d1) % ((m : Int) + 1) = (q : Int) := eq
  have pm : (0 : Int) < (m : Int) + 1 := by omega
  have mm : cMul 64 d1 := .inl (by decide)
  apply sat_seq
  · (walk_at "evs")
    all_goals first | exact mm | exact pm
  rw [eq]
  by_cases h3 : d2 % 3 = 0
  · have t3 : (d2 % 3 == 0) = true := beq_iff_eq.mpr h3
    obtain ⟨q7, hq7, eq7⟩ := mod_nat (q := (q : Int)) (n := 7) (by omega)
    have eq7 : (q : Int) % 7 = (q7 : Int) := eq7
    apply sat_seq_t
    · (walk_at "evs")
    apply sat_seq_ret
    · (walk_at "evs")
    · exact ⟨_, _, rfl, ⟨_, rfl⟩, rfl, q7, by rw [eq7], by omega⟩
  · have t3 : (d2 % 3 == 0) = false := beq_eq_false_iff_ne.mpr h3
    apply sat_seq_f
    · (walk_at "evs")
    apply sat_next
    apply sat_ret
    · (walk_at "evs")
    · exact ⟨_, _, rfl, ⟨_, rfl⟩, rfl, q, rfl, by omega⟩
theorem o_sorted {st : List Cell} {n : Nat} {ls : List (List Nat)} (h : lstOf st n = some (ls.map W.str)) (hl : ls.length < 64) : bSorted [.loc n] st = .ok (.loc st.length) (st ++ [.lst ((sortT ls).map W.str)]) := by
  unfold bSorted
  simp only [h, ofO_some, strs?_map]
  rw [if_pos hl]
theorem sum_perm {a b : List (List Nat)} (h : a.Perm b) : (a.map List.length).sum = (b.map List.length).sum := by
  induction h with
  | nil => rfl
  | cons x _ ih => simp only [List.map_cons, List.sum_cons, ih]
  | swap x y l => simp only [List.map_cons, List.sum_cons]; omega
  | trans _ _ ih1 ih2 => rw [ih1, ih2]
def ixOf : W -> Nat
  | .int i => i.toNat
  | _ => 0
theorem marks_ok (pool : List Nat) (hp : pool.length <= 50) (d : Int) (st : List Cell) : ∃ m : List Nat, m.length <= pool.length /\ f_q16 [.str pool, .int d] st = .ok (.str m) st := by
  let T : W -> Bool := fun w => Builtin.bitAnd (d / 2 ^ (ixOf w)) 1 == 1
  let yl : W -> List Nat := fun w => [pool.getD (ixOf w) 0]
  have hL : pool.length <= LIM := by show _ <= 1000000; omega
  obtain ⟨ls, hls⟩ : ∃ ls, ls = ((rangeW 0 pool.length).filter T).map yl := ⟨_, rfl⟩
  have hlen : ls.length <= pool.length := by
    rw [hls, List.length_map]
    refine Nat.le_trans (List.length_filter_le _ _) ?_
    rw [rangeW_len]; exact Nat.le_refl _
  have hone : ∀ x ∈ ls, x.length = 1 := by
    rw [hls]; intro x hx
    obtain ⟨w, _, rfl⟩ := List.mem_map.mp hx; rfl
  have hsum : ∀ l : List (List Nat), (∀ x ∈ l, x.length = 1) -> (l.map List.length).sum = l.length := by
    intro l
    induction l with
    | nil => intro; rfl
    | cons x r ih =>
      intro h
      simp only [List.map_cons, List.sum_cons, List.length_cons]
      rw [h x (by simp), ih fun y hy => h y (by simp [hy])]; omega
  have hc : eComp [none, some 0, some 1] (itRange1 (aCons (eCall bLen (aCons (eVar 0) aNil)) aNil)) (gNm 0) (asB (e2 wEq (e2 wBand (e2 wShr (eVar 2) (eVar 0)) (eC (.int 1))) (eC (.int 1)))) (e2 wIx (eVar 1) (eVar 0)) [some (.str pool), some (.int d)] st = .ok (.loc st.length) (st ++ [.lst (ls.map W.str)]) := by
    have := k_comp (fi := itRange1 (aCons (eCall bLen (aCons (eVar 0) aNil)) aNil)) (f := gNm 0) (t := asB (e2 wEq (e2 wBand (e2 wShr (eVar 2) (eVar 0)) (eC (.int 1))) (eC (.int 1)))) (el := e2 wIx (eVar 1) (eVar 0)) (cap := [none, some 0, some 1]) (ρ := [some (.str pool), some (.int d)]) (st := st) (st1 := st) (ws := rangeW 0 pool.length) (ck := none) T (fun w => .str (yl w))
      (by
        have := i_range1 (fs := aCons (eCall bLen (aCons (eVar 0) aNil)) aNil) (ρ := [some (.str pool), some (.int d)]) (st := st) (st1 := st) (q := (pool.length : Int)) (k_cons (k_call (k_cons (k_var rfl) k_nil) (o_lenS hL)) k_nil) (by omega)
        rw [Int.toNat_natCast] at this
        exact this) (by rw [rangeW_len]; show _ <= 1000000; omega) trivial ?_
    · rw [this, hls, List.map_map]; rfl
    · intro w hw
      obtain ⟨i, hi, rfl⟩ := range_mem hw
      have ei : ixOf (.int (0 + (i : Int))) = i := by simp [ixOf]
      refine ⟨[some (.int (0 + (i : Int))), some (.str pool), some (.int d)], rfl, ?_, fun _ => ?_⟩
      · have h0 : (0 : Int) <= 0 + (i : Int) := by omega
        have hk : (Builtin.bitAnd (d / 2 ^ (0 + (i : Int)).toNat) 1 == 1) = T (.int (0 + (i : Int))) := rfl
        exact k_asB (k_2 (k_2 (k_2 (k_var rfl) (k_var rfl) (o_II h0)) k_C (o_II trivial)) k_C (o_eqI hk))
      · refine k_2 (k_var rfl) (k_var rfl) ?_
        rw [show ((0 : Int) + (i : Int)) = (i : Int) by omega]
        have e2 : atI pool (i : Int) = some (pool.getD i 0) := at_nat (by rw [List.getD_eq_getElem?_getD, List.getElem?_eq_getElem hi]; rfl)
        rw [o_ixS hL e2]
        simp [yl, ixOf]
  have hcell : lstOf (st ++ [Cell.lst (ls.map W.str)]) st.length = some (ls.map W.str) := lstOf_l (by rw [cell_at0]; rfl)
  have hs := o_sorted hcell (by omega)
  have hcell2 : lstOf (st ++ [Cell.lst (ls.map W.str)] ++ [Cell.lst ((sortT ls).map W.str)]) (st ++ [Cell.lst (ls.map W.str)]).length = some ((sortT ls).map W.str) := lstOf_l (by rw [cell_at0]; rfl)
  have hsl : (sortT ls).length = ls.length := (sortT_perm ls).length_eq
  have hss : ((sortT ls).map List.length).sum = ls.length := by rw [sum_perm (sortT_perm ls), hsum ls hone]
  have hj := o_join (sep := []) hcell2 (by rw [hss]; show _ <= 1000000; simp; omega)
  refine ⟨joinN [] (sortT ls), ?_, ?_⟩
  · rw [joinN_nil, List.length_flatten, hss]; omega
  · refine run_is (N := 2) (ws := [.str pool, .int d]) (body := g_q16) ?_ rfl
    apply sat_ret
    · exact k_ms k_C rfl (k_cons (k_call (k_cons hc k_nil) hs) k_nil) hj
    · exact ⟨_, _, rfl, rfl, _, by rw [List.append_assoc]⟩
end P
set_option Elab.async false
set_option linter.all false
set_option maxRecDepth 100000
set_option maxHeartbeats 4000000
namespace P
open PySem L2
abbrev RFS : List Nat := [114, 101, 102, 117, 115, 101, 100]
abbrev TLD : List Nat := [116, 111, 108, 100]
def kindW (t0 a b : Bool) : W := .tup [.bl true, .bl t0, .bl false, .bl a, .bl false, .bl b, .bl false, .bl false, .bl false, .bl false]
def refW (t0 b : Bool) : W := .tup [.str RFS, kindW t0 false b]
theorem k_try_rt {ρ ρ' : EnvW} {st st1 st2 : List Cell} {g gh : FS} {cs : List Str} {i : Nat} {c : Str} {w : W} (h : g ρ st = .ex c ρ' st1) (hc : c ∈ cs) (h2 : gh (ρ'.set i (some (.loc st1.length))) (st1 ++ [.exc c]) = .rt w st2) : xTry g cs i gh ρ st = .rt w st2 := by
  unfold xTry; rw [h]; simp only; rw [if_pos hc, h2]; rfl
theorem kinds_ok {st : List Cell} {n : Nat} {c : Str} {t0 a b : Bool} (h : st[n]? = some (.exc c)) (hv : ti_ValueError c = some true) (h1 : ti_NoTree c = some t0) (h2 : ti_NoStatement c = some false) (h3 : ti_NoPlace c = some a) (h4 : ti_NoNumber c = some false) (h5 : ti_TooGreat c = some b) (h6 : ti_NoName c = some false) (h7 : ti_NoLine c = some false) (h8 : ti_NothingDone c = some false) (h9 : ti_NothingHeld c = some false) :
    f_q20 [.loc n] st = .ok (kindW t0 a b) st := by
  refine run_is (N := 2) (ws := [.loc n]) (body := g_q20) ?_ rfl
  have iE : ∀ {f : Str -> Option Bool} {k : Bool} {ρ : EnvW} {x : List Cell}, ρ[0]? = some (some (.loc n)) -> f c = some k -> eIsE f (eVar 0) ρ (st ++ x) = .ok (.bl k) (st ++ x) := fun h' hf => k_isE (k_var h') (cell_old h) hf
  have iE0 : ∀ {f : Str -> Option Bool} {k : Bool} {ρ : EnvW}, ρ[0]? = some (some (.loc n)) -> f c = some k -> eIsE f (eVar 0) ρ st = .ok (.bl k) st := fun h' hf => k_isE (k_var h') h hf
  apply sat_seq
  · exact k_set (k_lst (k_cons (iE0 rfl hv) (k_cons (iE0 rfl h1) (k_cons (iE0 rfl h2) k_nil))) (Nat.le_of_ble_eq_true rfl))
  have c1 : (st ++ [Cell.lst [.bl true, .bl t0, .bl false]] ++ [Cell.lst [.bl a, .bl false, .bl b]])[st.length]? = some (.lst [.bl true, .bl t0, .bl false]) := cell_old (by rw [cell_at0]; rfl)
  have c2 : (st ++ [Cell.lst [.bl true, .bl t0, .bl false]] ++ [Cell.lst [.bl a, .bl false, .bl b]])[(st ++ [Cell.lst [.bl true, .bl t0, .bl false]]).length]? = some (.lst [.bl a, .bl false, .bl b]) := by rw [cell_at0]; rfl
  have a1 := o_addL c1 c2 (Nat.le_of_ble_eq_true rfl)
  apply sat_seq
  · exact k_set (k_2 (k_var rfl) (k_lst (k_cons (iE rfl h3) (k_cons (iE rfl h4) (k_cons (iE rfl h5) k_nil))) (Nat.le_of_ble_eq_true rfl)) a1)
  obtain ⟨G, hG⟩ : ∃ G, st ++ [Cell.lst [.bl true, .bl t0, .bl false]] ++ [Cell.lst [.bl a, .bl false, .bl b]] ++ [Cell.lst ([.bl true, .bl t0, .bl false] ++ [.bl a, .bl false, .bl b])] = st ++ G := ⟨[Cell.lst [.bl true, .bl t0, .bl false], Cell.lst [.bl a, .bl false, .bl b], Cell.lst ([.bl true, .bl t0, .bl false] ++ [.bl a, .bl false, .bl b])], by simp⟩
  have cG : (st ++ G)[(st ++ [Cell.lst [.bl true, .bl t0, .bl false]] ++ [Cell.lst [.bl a, .bl false, .bl b]]).length]? = some (.lst [.bl true, .bl t0, .bl false, .bl a, .bl false, .bl b]) := by rw [<- hG, cell_at0]; rfl
  rw [hG]
  generalize (st ++ [Cell.lst [W.bl true, .bl t0, .bl false]] ++ [Cell.lst [.bl a, .bl false, .bl b]]).length = N1 at cG
  have c3 : (st ++ G ++ [Cell.lst [.bl false, .bl false, .bl false]])[N1]? = some (.lst [.bl true, .bl t0, .bl false, .bl a, .bl false, .bl b]) := cell_old cG
  have c4 : (st ++ G ++ [Cell.lst [.bl false, .bl false, .bl false]])[(st ++ G).length]? = some (.lst [.bl false, .bl false, .bl false]) := by rw [cell_at0]; rfl
  have a2 := o_addL c3 c4 (Nat.le_of_ble_eq_true rfl)
  apply sat_seq
  · exact k_set (k_2 (k_var rfl) (k_lst (k_cons (iE rfl h6) (k_cons (iE rfl h7) (k_cons (iE rfl h8) k_nil))) (Nat.le_of_ble_eq_true rfl)) a2)
  have c5 : (st ++ G ++ [Cell.lst [.bl false, .bl false, .bl false]] ++ [Cell.lst ([.bl true, .bl t0, .bl false, .bl a, .bl false, .bl b] ++ [.bl false, .bl false, .bl false])])[(st ++ G ++ [Cell.lst [W.bl false, .bl false, .bl false]]).length]? = some (.lst [.bl true, .bl t0, .bl false, .bl a, .bl false, .bl b, .bl false, .bl false, .bl false]) := by rw [cell_at0]; rfl
  obtain ⟨G2, hG2⟩ : ∃ G2, st ++ G ++ [Cell.lst [.bl false, .bl false, .bl false]] ++ [Cell.lst ([.bl true, .bl t0, .bl false, .bl a, .bl false, .bl b] ++ [.bl false, .bl false, .bl false])] = st ++ G2 := ⟨G ++ [Cell.lst [.bl false, .bl false, .bl false], Cell.lst ([.bl true, .bl t0, .bl false, .bl a, .bl false, .bl b] ++ [.bl false, .bl false, .bl false])], by simp⟩
  rw [hG2] at c5 ⊢
  have hge : st.length <= (st ++ G ++ [Cell.lst [W.bl false, .bl false, .bl false]]).length := by simp <;> omega
  generalize (st ++ G ++ [Cell.lst [W.bl false, .bl false, .bl false]]).length = N2 at c5 hge
  obtain ⟨j, rfl⟩ : ∃ j, N2 = st.length + j := ⟨N2 - st.length, by omega⟩
  have ap := o_app (y := .bl false) c5 (by show _ < 1000000; simp)
  rw [cell_set] at ap
  have hj : j < G2.length := by have := (List.getElem?_eq_some_iff.mp c5).1; simp at this; omega
  have c6 : (st ++ G2.set j (.lst ([.bl true, .bl t0, .bl false, .bl a, .bl false, .bl b, .bl false, .bl false, .bl false] ++ [.bl false])))[st.length + j]? = some (.lst [.bl true, .bl t0, .bl false, .bl a, .bl false, .bl b, .bl false, .bl false, .bl false, .bl false]) := by rw [cell_at]; simp [hj]
  apply sat_seq
  · exact k_expr (k_ml (k_var rfl) (k_isLst c5) (k_cons (iE rfl h9) k_nil) ap)
  apply sat_ret
  · exact k_call (k_cons (k_var rfl) k_nil) (o_tupL (lstOf_l c6))
  · exact ⟨_, _, rfl, rfl, _, rfl⟩
theorem refusal_ok (a : Nat) (st : List Cell) : f_q21 [.int a] st = .ok (.tup [.str RFS, .tup ((rangeW 0 10).map fun w => .bl (ixOf w == 0 || ixOf w == a))]) st := by
  have hc : eComp [none, some 0] (itRange1 (aCons (eC (.int 10)) aNil)) (gNm 0) fYes (eOr (e2 wEq (eVar 0) (eC (.int 0))) (e2 wEq (eVar 0) (eVar 1))) [some (.int a)] st = .ok (.loc st.length) (st ++ [.lst ((rangeW 0 10).map fun w => .bl (ixOf w == 0 || ixOf w == a))]) := by
    refine k_compY (ws := rangeW 0 10) (ck := none) (fun w => .bl (ixOf w == 0 || ixOf w == a)) (i_range1 (q := 10) (k_cons k_C k_nil) (by omega)) (by rw [rangeW_len]; decide) trivial fun w hw => ?_
    obtain ⟨i, hi, rfl⟩ := range_mem hw
    refine ⟨[some (.int (0 + (i : Int))), some (.int a)], rfl, ?_⟩
    have e1 : (0 + (i : Int) == 0) = (i == 0) := by rw [Bool.eq_iff_iff, beq_iff_eq, beq_iff_eq]; omega
    have e2 : (0 + (i : Int) == (a : Int)) = (i == a) := by rw [Bool.eq_iff_iff, beq_iff_eq, beq_iff_eq]; omega
    have ei : ixOf (.int (0 + (i : Int))) = i := by simp [ixOf]
    simp only [ei]
    cases h0 : (i == 0) with
    | true => exact k_or_t (k_2 (k_var rfl) k_C (o_eqI (by rw [e1, h0])))
    | false =>
      rw [Bool.false_or]
      exact k_or_f (k_2 (k_var rfl) k_C (o_eqI (by rw [e1, h0]))) (k_2 (k_var rfl) (k_var rfl) (o_eqI e2))
  refine run_is (N := 1) (ws := [.int a]) (body := g_q21) ?_ rfl
  apply sat_ret
  · exact k_tup (k_cons k_C (k_cons (k_call (k_cons hc k_nil) (o_tupL (lstOf_l (by rw [cell_at0]; rfl)))) k_nil)) (Nat.le_of_ble_eq_true rfl)
  · exact ⟨_, _, rfl, rfl, _, rfl⟩
end P
set_option Elab.async false
set_option linter.all false
set_option maxRecDepth 100000
set_option maxHeartbeats 4000000
namespace P
open PySem L2
theorem get_new' {s : List Cell} {c : Cell} : (s ++ [c])[s.length]? = some c := by rw [cell_at0]; rfl
structure Pl where
  b : Nat
  m : List Nat
def Pl.w (p : Pl) : W := .tup [.int (p.b : Nat), .str p.m]
theorem pl_b (p : Pl) (st : List Cell) : wIx p.w (.int 0) st = .ok (.int (p.b : Nat)) st := rfl
theorem pl_m (p : Pl) (st : List Cell) : wIx p.w (.int 1) st = .ok (.str p.m) st := rfl
theorem und_pls (ps : List Pl) (n : Nat) : undWs n (ps.map Pl.w) = true := by
  induction ps with
  | nil => rfl
  | cons x r ih => simp only [List.map_cons, undWs, ih, Bool.and_true]; rfl
def WOk (ps : List Pl) : Prop := ∀ p ∈ ps, p.b <= 3 /\ p.m.length <= 4
theorem wood_ok {st : List Cell} {nd : Nat} {ds : List Int} {pool : List Nat} (hd : st[nd]? = some (.lst (ds.map W.int))) (hds : ∀ d ∈ ds, 0 <= d) (hp : pool.length <= 4) :
    ∃ ps : List Pl, WOk ps /\ ps.length <= 101 /\ f_q17 [.loc nd, .str pool, .int 100] st = .ok (.tup (ps.map Pl.w)) st := by
  suffices hh : Sat (rtP fun w st' => (∃ x, st' = st ++ x) /\ undWs st.length [w] = true /\ ∃ ps : List Pl, w = .tup (ps.map Pl.w) /\ WOk ps /\ ps.length <= 101) (g_q17 ([W.loc nd, .str pool, .int 100].map some ++ List.replicate (8 - 3) none) st) by
    obtain ⟨w, ⟨ps, rfl, h1, h2⟩, e⟩ := run_val hh
    exact ⟨ps, h1, h2, e⟩
  apply sat_seq
  · (walk_at "evs")
  apply sat_seq
  · (walk_at "evs")
  have hcell : ∀ A : List W, lstOf (st ++ [Cell.lst A]) nd = some (ds.map W.int) := fun A => lstOf_l (cell_old hd)
  refine sat_for (fun i ρ st' => ∃ (ps : List Pl) (S : Nat) (o5 o6 o7 : Option W), ρ = [some (.loc nd), some (.str pool), some (.int 100), some (.loc st.length), some (.int S), o5, o6, o7] /\ st' = st ++ [.lst (ps.map Pl.w)] /\ WOk ps /\ ps.length + S <= 101 /\ S <= ps.length) (i_any_l (st1 := st ++ [Cell.lst []]) (by (walk_at "evs")) (hcell []))
    ⟨[], 0, none, none, none, rfl, rfl, by intro p hp; simp at hp, by simp, by simp⟩ (fun i ρ st' h => ?_) ?_ ?_
  · obtain ⟨ps, S, o5, o6, o7, rfl, rfl, _⟩ := h
    exact hcell _
  · rintro i w ρ st' hw ⟨ps, S, o5, o6, o7, rfl, rfl, hg, hle, hsl⟩
    obtain ⟨d, hdd, rfl⟩ : ∃ d, ds[i]? = some d /\ w = .int d := by
      simp only [List.getElem?_map, Option.map_eq_some_iff] at hw
      obtain ⟨d, h1, rfl⟩ := hw
      exact ⟨d, h1, rfl⟩
    have hd0 := hds d (List.mem_of_getElem? hdd)
    refine ⟨_, rfl, ?_⟩
    have hc : (st ++ [Cell.lst (ps.map Pl.w)])[st.length]? = some (.lst (ps.map Pl.w)) := by rw [cell_at0]; rfl
    have hlen := o_lenL (lstOf_l hc)
    rw [List.length_map] at hlen
    obtain ⟨b0, hb0, eb0⟩ := mod_nat (q := d) (n := 4) (by omega)
    have eb0 : d % 4 = (b0 : Int) := eb0
    apply sat_seq
    · (walk_at "evs")
    rw [eb0]
    refine sat_cut (fun ρ st' => ∃ b : Nat, b <= 3 /\ (b + 1) / 2 <= S /\ ρ = [some (.loc nd), some (.str pool), some (.int 100), some (.loc st.length), some (.int S), some (.int d), some (.int b), o7] /\ st' = st ++ [.lst (ps.map Pl.w)]) ?_ ?_
    · by_cases h1 : S < (b0 + 1) / 2
      · have t1 : decide ((S : Int) < ((b0 : Int) + 1) / 2) = true := decide_eq_true (by omega)
        apply sat_t
        · (walk_at "evs")
        apply sat_eq
        · (walk_at "evs")
        · exact ⟨_, _, rfl, 0, by omega, by omega, rfl, rfl⟩
      · have t1 : decide ((S : Int) < ((b0 : Int) + 1) / 2) = false := decide_eq_false (by omega)
        apply sat_f
        · (walk_at "evs")
        apply sat_eq
        · (walk_at "evs")
        · exact ⟨_, _, rfl, b0, by omega, by omega, rfl, rfl⟩
    rintro ρ st' ⟨b1, hb1, hs1, rfl, rfl⟩
    refine sat_cut (fun ρ st' => ∃ b : Nat, b <= 3 /\ (b + 1) / 2 <= S /\ ρ = [some (.loc nd), some (.str pool), some (.int 100), some (.loc st.length), some (.int S), some (.int d), some (.int b), o7] /\ st' = st ++ [.lst (ps.map Pl.w)]) ?_ ?_
    · by_cases h1 : (100 : Int) < (ps.length : Int) + (S : Int) + 1 - ((b1 : Int) + 1) / 2
      · have t1 : decide ((100 : Int) < (ps.length : Int) + (S : Int) + 1 - ((b1 : Int) + 1) / 2) = true := decide_eq_true h1
        by_cases h2 : 1 < S
        · have t2 : decide ((1 : Int) < (S : Int)) = true := decide_eq_true (by omega)
          apply sat_t
          · apply k_bnd_t
            · (walk_at "evs")
            · (walk_at "evs")
          apply sat_eq
          · (walk_at "evs")
          · exact ⟨_, _, rfl, 3, by omega, by omega, rfl, rfl⟩
        · have t2 : decide ((1 : Int) < (S : Int)) = false := decide_eq_false (by omega)
          apply sat_f
          · apply k_bnd_t
            · (walk_at "evs")
            · (walk_at "evs")
          apply sat_eq
          · (walk_at "evs")
          · exact ⟨_, _, rfl, b1, hb1, hs1, rfl, rfl⟩
      · have t1 : decide ((100 : Int) < (ps.length : Int) + (S : Int) + 1 - ((b1 : Int) + 1) / 2) = false := decide_eq_false h1
        apply sat_f
        · apply k_bnd_f
          (walk_at "evs")
        apply sat_eq
        · (walk_at "evs")
        · exact ⟨_, _, rfl, b1, hb1, hs1, rfl, rfl⟩
    rintro ρ st' ⟨b2, hb2, hs2, rfl, rfl⟩
    apply sat_seq
    · (walk_at "evs")
    by_cases h1 : (ps.length : Int) + (S : Int) + 1 - ((b2 : Int) + 1) / 2 <= 100
    · have t1 : decide ((ps.length : Int) + (S : Int) + 1 - ((b2 : Int) + 1) / 2 <= 100) = true := decide_eq_true h1
      obtain ⟨m, hm, em⟩ := marks_ok pool (by omega) (d / 4 % 16) (st ++ [Cell.lst (ps.map Pl.w)])
      have ap := o_app (y := (Pl.mk b2 m).w) hc (by rw [List.length_map]; show _ < 1000000; omega)
      rw [cell_set0] at ap
      have ap : mAppend (.loc st.length) [.tup [.int b2, .str m]] (st ++ [Cell.lst (ps.map Pl.w)]) = _ := ap
      have isl := k_isLst hc
      apply sat_t
      · (walk_at "evs")
      apply sat_seq
      · (walk_at "evs")
      apply sat_eq
      · (walk_at "evs")
      · rw [show (S : Int) + 1 - ((b2 : Int) + 1) / 2 = ((S + 1 - (b2 + 1) / 2 : Nat) : Int) by omega]
        refine ⟨_, _, rfl, ps ++ [⟨b2, m⟩], S + 1 - (b2 + 1) / 2, _, _, _, rfl, by simp, fun p hp' => ?_, by simp; omega, by simp; omega⟩
        rcases List.mem_append.mp hp' with h | h
        · exact hg p h
        · rw [List.mem_singleton.mp h]; exact ⟨hb2, by show m.length <= 4; omega⟩
    · have t1 : decide ((ps.length : Int) + (S : Int) + 1 - ((b2 : Int) + 1) / 2 <= 100) = false := decide_eq_false h1
      apply sat_f
      · (walk_at "evs")
      apply sat_eq
      · (walk_at "evs")
      · exact ⟨_, _, rfl, ps, S, _, _, _, rfl, rfl, hg, hle, hsl⟩
  · rintro ρ st' ⟨ps, S, o5, o6, o7, rfl, rfl, hg, hle, hsl⟩
    refine sat_while (fun n ρ st' => ∃ (ps : List Pl), ρ = [some (.loc nd), some (.str pool), some (.int 100), some (.loc st.length), some (.int n), o5, o6, o7] /\ st' = st ++ [.lst (ps.map Pl.w)] /\ WOk ps /\ ps.length + n <= 101 /\ n <= ps.length) S ⟨ps, rfl, rfl, hg, hle, hsl⟩ ?_ ?_
    · rintro n ρ st' ⟨ps, rfl, rfl, hg, hle, hsl⟩
      by_cases h1 : 1 < n
      · right
        have t1 : decide ((1 : Int) < (n : Int)) = true := decide_eq_true (by omega)
        constructor
        · (walk_at "evs")
        have hc : (st ++ [Cell.lst (ps.map Pl.w)])[st.length]? = some (.lst (ps.map Pl.w)) := by rw [cell_at0]; rfl
        obtain ⟨p, hpp⟩ : ∃ p, ps[n - 1]? = some p := ⟨ps[n - 1]'(by omega), by simp⟩
        have i1 : wIx (.loc st.length) (.int ((n : Int) - 1)) (st ++ [Cell.lst (ps.map Pl.w)]) = .ok p.w (st ++ [Cell.lst (ps.map Pl.w)]) := by
          rw [show (n : Int) - 1 = ((n - 1 : Nat) : Int) by omega]
          exact o_ixL (lstOf_l hc) (at_nat (by simp [hpp]))
        have i2 := pl_m p (st ++ [Cell.lst (ps.map Pl.w)])
        have ap := o_app (y := (Pl.mk 3 p.m).w) hc (by rw [List.length_map]; show _ < 1000000; omega)
        rw [cell_set0] at ap
        have ap : mAppend (.loc st.length) [.tup [.int 3, .str p.m]] (st ++ [Cell.lst (ps.map Pl.w)]) = _ := ap
        have isl := k_isLst hc
        apply sat_seq
        · (walk_at "evs")
        apply sat_eq
        · (walk_at "evs")
        · rw [show (n : Int) - 1 = ((n - 1 : Nat) : Int) by omega]
          refine ⟨_, _, rfl, n - 1, by omega, ps ++ [⟨3, p.m⟩], rfl, by simp, fun x hx => ?_, by simp; omega, by simp; omega⟩
          rcases List.mem_append.mp hx with h | h
          · exact hg x h
          · rw [List.mem_singleton.mp h]; exact ⟨Nat.le_refl _, (hg p (List.mem_of_getElem? hpp)).2⟩
      · left
        have t1 : decide ((1 : Int) < (n : Int)) = false := decide_eq_false (by omega)
        (walk_at "evs")
    · rintro n ρ st' ⟨ps, rfl, rfl, hg, hle, hsl⟩ _
      have hc : (st ++ [Cell.lst (ps.map Pl.w)])[st.length]? = some (.lst (ps.map Pl.w)) := by rw [cell_at0]; rfl
      apply sat_ret
      · (repeat' (first | with_reducible exact o_tupL (lstOf_l hc) | walk_at "ev1"))
      · exact ⟨_, _, rfl, ⟨_, rfl⟩, by simp only [undWs, Bool.and_true]; exact und_pls ps _, ps, rfl, hg, by omega⟩
theorem joinN_len (sep : List Nat) : ∀ l : List (List Nat), (joinN sep l).length <= (l.map List.length).sum + l.length * sep.length
  | [] => by simp [joinN]
  | [x] => by simp [joinN]
  | x :: y :: r => by
    have ih := joinN_len sep (y :: r)
    show (x ++ sep ++ joinN sep (y :: r)).length <= _
    simp only [List.length_append, List.map_cons, List.sum_cons, List.length_cons, Nat.succ_mul] at ih ⊢
    omega
def fg (p : Pl) : List Nat := (48 + p.b) :: p.m
theorem text_ok {ps : List Pl} (hg : WOk ps) (hl : ps.length <= 101) (st : List Cell) : ∃ T : List Nat, T.length <= 700 /\ f_q22 [.tup (ps.map Pl.w)] st = .ok (.str T) st := by
  by_cases h : ps = []
  · subst h
    refine ⟨[45], by simp, ?_⟩
    apply runF_self; apply k_seqR; apply k_if_t
    · exact k_asB (k_2 (k_call (k_cons (k_var rfl) k_nil) o_lenT) k_C (o_eqI rfl))
    · exact k_ret k_C
  · have hlen : ((ps.map fg).map List.length).sum <= ps.length * 5 := by
      clear h
      induction ps with
      | nil => simp
      | cons p r ih =>
        have := (hg p (by simp)).2
        have := ih (fun q hq => hg q (by simp [hq])) (by simp at hl; omega)
        simp [fg] at this ⊢; omega
    refine ⟨joinN [32] (ps.map fg), ?_, ?_⟩
    · have := joinN_len [32] (ps.map fg)
      simp only [List.length_map, List.length_cons, List.length_nil] at this
      rw [List.map_map] at hlen
      simp only [List.map_map] at this
      omega
    · refine run_is (N := 1) (ws := [.tup (ps.map Pl.w)]) (body := g_q22) ?_ rfl
      have hcm := k_compY (cap := [none, none]) (f := gTp 2 (gsCons (gNm 0) (gsCons (gNm 1) gsNil))) (el := e2 wAdd (e2 wIx (eC (.str [48, 49, 50, 51])) (eVar 0)) (eVar 1)) (ρ := [some (.tup (ps.map Pl.w))]) (st := st)
        (fun w => match w with | .tup [.int b, .str m] => .str ((48 + b.toNat) :: m) | _ => .non) (i_any_t (fe := eVar 0) (ws := ps.map Pl.w) (st1 := st) (k_var rfl)) (by rw [List.length_map]; show _ <= 1000000; omega) trivial fun w hw => by
          obtain ⟨p, hp, rfl⟩ := List.mem_map.mp hw
          obtain ⟨hb, hm⟩ := hg p hp
          refine ⟨[some (.int (p.b : Nat)), some (.str p.m)], rfl, ?_⟩
          have e1 : wIx (.str [48, 49, 50, 51]) (.int (p.b : Nat)) st = .ok (.str [48 + p.b]) st := by
            have : p.b = 0 \/ p.b = 1 \/ p.b = 2 \/ p.b = 3 := by omega
            rcases this with h | h | h | h <;> rw [h] <;> rfl
          have e2 : wAdd (.str [48 + p.b]) (.str p.m) st = .ok (.str ([48 + p.b] ++ p.m)) st := o_addS (by show 1 + _ <= 1000000; omega)
          exact k_2 (k_2 k_C (k_var rfl) e1) (k_var rfl) e2
      have em : (ps.map Pl.w).map (fun w => match w with | .tup [.int b, .str m] => W.str ((48 + b.toNat) :: m) | _ => .non) = (ps.map fg).map W.str := by
        rw [List.map_map, List.map_map]; rfl
      rw [em] at hcm
      have hj := o_join (sep := [32]) (lstOf_l (get_new' (s := st) (c := Cell.lst ((ps.map fg).map W.str)))) (by
        rw [List.length_map]; show _ <= 1000000; simp only [List.length_cons, List.length_nil]; omega)
      have hne : ((ps.length : Int) == 0) = false := by
        rw [beq_eq_false_iff_ne]
        have := List.length_pos_iff.mpr h
        omega
      apply sat_seq_f
      · exact k_asB (k_2 (k_call (k_cons (k_var rfl) k_nil) o_lenT) k_C (o_eqI (by rw [List.length_map]; exact hne)))
      apply sat_next
      apply sat_ret
      · exact k_ms k_C rfl (k_cons hcm k_nil) hj
      · exact ⟨_, _, rfl, rfl, _, rfl⟩
end P
set_option Elab.async false
set_option linter.all false
set_option maxRecDepth 100000
set_option maxHeartbeats 4000000
namespace P
open PySem L2
section
variable {st : List Cell}
theorem for_nx {f : FG} {body : FS} {w : W} {ws : List W} {ρ ρ' ρ2 : EnvW} {st2 : List Cell} (h1 : f w ρ = some ρ') (h2 : body ρ' st = .nx ρ2 st2) : forW f body none (w :: ws) ρ st = forW f body none ws ρ2 st2 := by
  conv => lhs; unfold forW
  rw [if_pos (show chkOk st none from trivial), h1]; simp only [h2]
theorem for_rt {f : FG} {body : FS} {w v : W} {ws : List W} {ρ ρ' : EnvW} {st2 : List Cell} (h1 : f w ρ = some ρ') (h2 : body ρ' st = .rt v st2) : forW f body none (w :: ws) ρ st = .rt v st2 := by
  unfold forW
  rw [if_pos (show chkOk st none from trivial), h1]; simp only [h2]
theorem for_nil {f : FG} {body : FS} {ρ : EnvW} : forW f body none [] ρ st = .nx ρ st := by
  unfold forW
  rw [if_pos (show chkOk st none from trivial)]
end
theorem k_chain_t {f f' : W -> W -> List Cell -> R W} {fa fb fc : FE} {ρ : EnvW} {st st1 st2 st3 st4 st5 : List Cell} {x y w v : W} (h1 : fa ρ st = .ok x st1) (h2 : fb ρ st1 = .ok y st2) (h3 : f x y st2 = .ok (.bl true) st3) (h4 : fc ρ st3 = .ok w st4) (h5 : f' y w st4 = .ok v st5) : eChain f f' fa fb fc ρ st = .ok v st5 := by
  unfold eChain; rw [h1]; simp only [R.bind_ok]; rw [h2]; simp only [R.bind_ok]; rw [h3]; simp only [R.bind_ok]; rw [h4]; exact h5
theorem i_any_s {fe : FE} {ρ : EnvW} {st st1 : List Cell} {l : List Nat} (h : fe ρ st = .ok (.str l) st1) : itAny fe ρ st = .ok (signsW l, none) st1 := by unfold itAny; rw [h]; rfl
theorem signs_len (l : List Nat) : (signsW l).length = l.length := by simp [signsW]
theorem letter_ok (c : Nat) (st : List Cell) : f_q0 [.str [c]] st = .ok (.bl (decide (c ∈ LL))) st := by
  refine run_self' ?_
  apply sat_ret
  · exact k_and_t (k_2 (k_call (k_cons (k_var rfl) k_nil) (o_lenS (by show _ <= 1000000; simp))) k_C (o_eqI rfl)) (k_2 (k_var rfl) k_C rfl)
  · exact ⟨_, _, rfl, rfl, rfl⟩
theorem bls_map (l : List Bool) : bls? (l.map W.bl) = some l := by
  induction l with
  | nil => rfl
  | cons x r ih => simp only [List.map_cons, bls?, ih]; rfl
theorem ones_join (l : List Nat) : joinN [] (l.map fun c => [c]) = l := by
  rw [joinN_nil]
  induction l with
  | nil => rfl
  | cons a r ih => simp only [List.map_cons, List.flatten_cons, ih]; rfl
theorem sum_ones (l : List Nat) : (((l.map fun c => [c])).map List.length).sum = l.length := by
  induction l with
  | nil => rfl
  | cons a r ih => simp only [List.map_cons, List.sum_cons, List.length_cons, ih, List.length_nil]; omega
theorem order_ok {l : List Nat} (hl : l.length < 4000) (h : ∀ c ∈ l, c ∈ LL) (st : List Cell) : f_q1 [.str l] st = .ok (.str (sortU l)) st := by
  have hs : (sortU l).length < 64 := by
    have : (sortU l).length <= LL.length := nodup_sub_len ((sortU_up l).imp fun h => Nat.ne_of_lt h) fun c hc => h c (mem_sortU.mp hc)
    have e : LL.length = 52 := by decide
    omega
  have e1 : eSortSet (eVar 0) [some (.str l)] st = .ok (.loc st.length) (st ++ [.lst (signsW (sortU l))]) := by
    unfold eSortSet
    rw [k_var (w := .str l) rfl]
    simp only [R.bind_ok, signsOf?, ofO_some]
    rw [if_pos ⟨hl, hs⟩]
  have hj := o_join (sep := []) (ls := (sortU l).map fun c => [c]) (st := st ++ [.lst (signsW (sortU l))]) (n := st.length) (lstOf_l (by rw [get_new']; unfold signsW; rw [List.map_map]; rfl)) (by
    rw [sum_ones]; show _ <= 1000000; simp; omega)
  rw [ones_join] at hj
  refine run_is ?_ rfl
  apply sat_ret
  · exact k_ms k_C rfl (k_cons e1 k_nil) hj
  · exact ⟨_, _, rfl, rfl, _, rfl⟩
def rowB (l : List Nat) : Bool := rise (-1) l
theorem is_row_ok {l : List Nat} (hl : l.length < 4000) (st : List Cell) : f_q2 [.str l] st = .ok (.bl (rowB l)) st := by
  have hcm := k_compY (cap := [none]) (f := gNm 0) (el := eDef 1 f_q0 (aCons (eVar 0) aNil)) (ρ := [some (.str l)]) (st := st) (fun w => match w with | .str [c] => .bl (decide (c ∈ LL)) | _ => .non)
    (i_any_s (fe := eVar 0) (st1 := st) (l := l) (k_var rfl)) (by rw [signs_len]; show _ <= 1000000; omega) trivial fun w hw => by
      obtain ⟨c, _, rfl⟩ := List.mem_map.mp hw
      exact ⟨_, rfl, k_def (k_cons (k_var rfl) k_nil) (letter_ok c st) rfl⟩
  have em : (signsW l).map (fun w => match w with | .str [c] => W.bl (decide (c ∈ LL)) | _ => .non) = (l.map fun c => decide (c ∈ LL)).map W.bl := by
    unfold signsW; rw [List.map_map, List.map_map]; rfl
  rw [em] at hcm
  have ha : bAll [.loc st.length] (st ++ [Cell.lst ((l.map fun c => decide (c ∈ LL)).map W.bl)]) = .ok (.bl (decide (∀ c ∈ l, c ∈ LL))) (st ++ [Cell.lst ((l.map fun c => decide (c ∈ LL)).map W.bl)]) := by
    unfold bAll
    simp only [lstOf_l (get_new' (s := st) (c := Cell.lst ((l.map fun c => decide (c ∈ LL)).map W.bl))), ofO_some, bls_map]
    congr 2
    rw [Bool.eq_iff_iff, List.all_eq_true, decide_eq_true_iff]
    constructor
    · intro h c hc
      have := h (decide (c ∈ LL)) (List.mem_map.mpr ⟨c, hc, rfl⟩)
      simpa using this
    · intro h b hb
      obtain ⟨c, hc, rfl⟩ := List.mem_map.mp hb
      simpa using h c hc
  have hi := row_iff l
  by_cases h : ∀ c ∈ l, c ∈ LL
  · rw [decide_eq_true h] at ha
    have hr : rowB l = decide (sortU l = l) := by
      unfold rowB
      rw [Bool.eq_iff_iff, hi, decide_eq_true_iff]
      exact ⟨fun z => z.2, fun z => ⟨h, z⟩⟩
    refine run_is ?_ rfl
    apply sat_ret
    · exact k_and_t (k_call (k_cons hcm k_nil) ha) (k_2 (k_def (k_cons (k_var rfl) k_nil) (order_ok hl h _) rfl) (k_var rfl) (o_eqS rfl))
    · refine ⟨_, _, rfl, ?_, _, rfl⟩
      rw [hr]
      congr 1
      rw [Bool.eq_iff_iff, beq_iff_eq, decide_eq_true_iff]
  · rw [decide_eq_false h] at ha
    have hr : rowB l = false := by
      unfold rowB
      cases e : rise (-1) l with
      | false => rfl
      | true => exact absurd (hi.mp e).1 h
    rw [hr]
    refine run_is ?_ rfl
    apply sat_ret
    · exact k_and_f (k_call (k_cons hcm k_nil) ha)
    · exact ⟨_, _, rfl, rfl, _, rfl⟩
theorem whole_ok (z : Int) (st : List Cell) : f_q5 [.int z] st = .ok (.bl true) st := by
  refine run_self' ?_
  apply sat_ret
  · exact k_and_t (k_isT (k_var rfl) rfl rfl) (k_not (k_isT (k_var rfl) rfl rfl) rfl)
  · exact ⟨_, _, rfl, rfl, rfl⟩
theorem in_13 {b : Nat} (h : b <= 3) (st : List Cell) : wIn false (.int b) (.tup [.int 1, .int 3]) st = .ok (.bl (decide (b % 2 = 1))) st := by
  obtain rfl | rfl | rfl | rfl : b = 0 \/ b = 1 \/ b = 2 \/ b = 3 := by omega
  all_goals rfl
theorem in_23 {b : Nat} (h : b <= 3) (st : List Cell) : wIn false (.int b) (.tup [.int 2, .int 3]) st = .ok (.bl (decide (2 <= b))) st := by
  obtain rfl | rfl | rfl | rfl : b = 0 \/ b = 1 \/ b = 2 \/ b = 3 := by omega
  all_goals rfl
section
variable {p : Pl}
theorem left_ok (h : p.b <= 3) (st : List Cell) : f_q3 [p.w] st = .ok (.bl (decide (p.b % 2 = 1))) st := by
  refine run_self' ?_
  apply sat_ret
  · exact k_2 (k_2 (k_var rfl) k_C (pl_b p st)) (k_tup (k_cons k_C (k_cons k_C k_nil)) (Nat.le_of_ble_eq_true rfl)) (in_13 h st)
  · exact ⟨_, _, rfl, rfl, rfl⟩
theorem right_ok (h : p.b <= 3) (st : List Cell) : f_q4 [p.w] st = .ok (.bl (decide (2 <= p.b))) st := by
  refine run_self' ?_
  apply sat_ret
  · exact k_2 (k_2 (k_var rfl) k_C (pl_b p st)) (k_tup (k_cons k_C (k_cons k_C k_nil)) (Nat.le_of_ble_eq_true rfl)) (in_23 h st)
  · exact ⟨_, _, rfl, rfl, rfl⟩
theorem place_ok (h : p.b <= 3) (hl : p.m.length < 4000) (st : List Cell) : f_q6 [p.w] st = .ok (.bl (rowB p.m)) st := by
  refine run_self' ?_
  apply sat_seq_f
  · exact k_bor_f (k_bnt (k_asB (k_isT (k_var rfl) rfl rfl)) rfl) (k_asB (k_2 (k_call (k_cons (k_var rfl) k_nil) o_lenT) k_C (o_neI rfl)))
  apply sat_next
  apply sat_seq_f
  · exact k_bor_f (k_bnt (k_asB (k_def (k_cons (k_2 (k_var rfl) k_C (pl_b p st)) k_nil) (whole_ok _ st) rfl)) rfl) (k_bnt (k_asB (k_isT (k_2 (k_var rfl) k_C (pl_m p st)) rfl rfl)) rfl)
  apply sat_next
  apply sat_ret
  · exact k_and_t (k_chain_t k_C (k_2 (k_var rfl) k_C (pl_b p st)) (o_leI (by simp)) k_C (o_leI (by simp; omega))) (k_def (k_cons (k_2 (k_var rfl) k_C (pl_m p st)) k_nil) (is_row_ok hl st) rfl)
  · exact ⟨_, _, rfl, rfl, rfl⟩
end
def ar (p : Pl) : Nat := (p.b + 1) / 2
def isTr : List Pl -> Nat -> Bool
  | [], f => f == 1
  | p :: l, f => if rowB p.m then (if f < ar p then false else isTr l (f - ar p + 1)) else false
theorem isTr_iff : ∀ (ps : List Pl) (f : Nat), isTr ps f = true ↔ (∀ p ∈ ps, rowB p.m = true) /\ lf (ps.map ar) f = some 1
  | [], f => by simp [isTr, lf]
  | p :: l, f => by
    unfold isTr
    have ih := isTr_iff l (f - ar p + 1)
    by_cases h : rowB p.m = true
    · rw [if_pos h]
      by_cases h2 : f < ar p
      · rw [if_pos h2]
        simp [lf, h2]
      · rw [if_neg h2, ih]
        simp [lf, h2, h]
    · rw [if_neg h]
      constructor
      · intro z; cases z
      · intro z; exact absurd (z.1 p (by simp)) h
noncomputable abbrev tBody : FS := (xSeq (xIf (bnt (asB (eDef 1 f_q6 (aCons (eVar 2) aNil)))) (xRet (eC (.bl false))) xNext) (xSeq (xIf (asB (eDef 1 f_q3 (aCons (eVar 2) aNil))) (xSet 1 (e2 wSub (eVar 1) (eC (.int 1)))) xNext) (xSeq (xIf (asB (eDef 1 f_q4 (aCons (eVar 2) aNil))) (xSet 1 (e2 wSub (eVar 1) (eC (.int 1)))) xNext) (xSeq (xIf (asB (e2 wLt' (eVar 1) (eC (.int 0)))) (xRet (eC (.bl false))) xNext) (xSet 1 (e2 wAdd (eVar 1) (eC (.int 1))))))))
theorem seq_rt {g g' : FS} {ρ : EnvW} {st st' : List Cell} {w : W} (h : g ρ st = .rt w st') : xSeq g g' ρ st = .rt w st' := k_seqR h
theorem tBody_ok {p : Pl} {t : W} {f : Nat} (hb : p.b <= 3) (hl : p.m.length < 4000) (st : List Cell) :
    tBody [some t, some (.int (f : Nat)), some p.w] st = if rowB p.m then (if f < ar p then .rt (.bl false) st else .nx [some t, some (.int ((f - ar p + 1 : Nat) : Int)), some p.w] st) else .rt (.bl false) st := by
  by_cases h : rowB p.m = true
  · rw [if_pos h]
    have e1 := place_ok hb hl st
    rw [h] at e1
    have s1 : xIf (asB (eDef 1 f_q3 (aCons (eVar 2) aNil))) (xSet 1 (e2 wSub (eVar 1) (eC (.int 1)))) xNext [some t, some (.int (f : Nat)), some p.w] st = .nx [some t, some (.int ((f : Int) - (p.b % 2 : Nat))), some p.w] st := by
      have := left_ok hb st
      by_cases q : p.b % 2 = 1
      · rw [decide_eq_true q] at this
        rw [q]
        exact k_if_t (k_asB (k_def (k_cons (k_var rfl) k_nil) this rfl)) (k_set (k_2 (k_var rfl) k_C (o_II trivial)))
      · rw [decide_eq_false q] at this
        rw [show p.b % 2 = 0 by omega, show (f : Int) - ((0 : Nat) : Int) = f by omega]
        exact k_if_f (k_asB (k_def (k_cons (k_var rfl) k_nil) this rfl)) k_next
    have s2 : ∀ z : Int, xIf (asB (eDef 1 f_q4 (aCons (eVar 2) aNil))) (xSet 1 (e2 wSub (eVar 1) (eC (.int 1)))) xNext [some t, some (.int z), some p.w] st = .nx [some t, some (.int (z - (p.b / 2 : Nat))), some p.w] st := fun z => by
      have := right_ok hb st
      by_cases q : 2 <= p.b
      · rw [decide_eq_true q] at this
        rw [show p.b / 2 = 1 by omega]
        exact k_if_t (k_asB (k_def (k_cons (k_var rfl) k_nil) this rfl)) (k_set (k_2 (k_var rfl) k_C (o_II trivial)))
      · rw [decide_eq_false q] at this
        rw [show p.b / 2 = 0 by omega, show z - ((0 : Nat) : Int) = z by omega]
        exact k_if_f (k_asB (k_def (k_cons (k_var rfl) k_nil) this rfl)) k_next
    have ea : (f : Int) - (p.b % 2 : Nat) - (p.b / 2 : Nat) = (f : Int) - (ar p : Nat) := by unfold ar; omega
    refine k_seq (k_if_f (k_bnt (k_asB (k_def (k_cons (k_var rfl) k_nil) e1 rfl)) rfl) k_next) (k_seq s1 (k_seq (s2 _) ?_))
    rw [ea]
    by_cases q : f < ar p
    · rw [if_pos q]
      exact seq_rt (k_if_t (k_asB (k_2 (k_var rfl) k_C (o_cmp (by simp; omega)))) (k_ret k_C))
    · rw [if_neg q, show ((f - ar p + 1 : Nat) : Int) = (f : Int) - (ar p : Nat) + 1 by omega]
      exact k_seq (k_if_f (k_asB (k_2 (k_var rfl) k_C (o_cmp (by simp; omega)))) k_next) (k_set (k_2 (k_var rfl) k_C o_addI))
  · rw [if_neg h]
    have e1 := place_ok hb hl st
    rw [show rowB p.m = false by cases q : rowB p.m with | false => rfl | true => exact absurd q h] at e1
    exact seq_rt (k_if_t (k_bnt (k_asB (k_def (k_cons (k_var rfl) k_nil) e1 rfl)) rfl) (k_ret k_C))
theorem tLoop_ok {t : W} (st : List Cell) : ∀ (ps : List Pl) (f : Nat) (o : Option W), (∀ p ∈ ps, p.b <= 3 /\ p.m.length < 4000) ->
    (isTr ps f = true /\ ∃ o', forW (gNm 2) tBody none (ps.map Pl.w) [some t, some (.int (f : Nat)), o] st = .nx [some t, some (.int 1), o'] st) \/
    (isTr ps f = false /\ (forW (gNm 2) tBody none (ps.map Pl.w) [some t, some (.int (f : Nat)), o] st = .rt (.bl false) st \/ ∃ z o', z ≠ 1 /\ forW (gNm 2) tBody none (ps.map Pl.w) [some t, some (.int (f : Nat)), o] st = .nx [some t, some (.int z), o'] st))
  | [], f, o, _ => by
    by_cases h : f = 1
    · subst h; exact .inl ⟨rfl, o, for_nil⟩
    · exact .inr ⟨by simpa [isTr] using h, .inr ⟨f, o, by omega, for_nil⟩⟩
  | p :: ps, f, o, hp => by
    obtain ⟨h1, h2⟩ := hp p (by simp)
    have e := tBody_ok (t := t) (f := f) h1 h2 st
    unfold isTr
    rw [List.map_cons]
    by_cases h : rowB p.m = true
    · rw [if_pos h] at e ⊢
      by_cases q : f < ar p
      · rw [if_pos q] at e ⊢
        exact .inr ⟨rfl, .inl (for_rt (f := gNm 2) rfl e)⟩
      · rw [if_neg q] at e ⊢
        rw [for_nx (f := gNm 2) (ρ := [some t, some (.int (f : Nat)), o]) rfl e]
        exact tLoop_ok st ps (f - ar p + 1) _ fun r hr => hp r (by simp [hr])
    · rw [if_neg h] at e ⊢
      exact .inr ⟨rfl, .inl (for_rt (f := gNm 2) rfl e)⟩
theorem is_tree_ok {ps : List Pl} (hne : ps ≠ []) (hp : ∀ p ∈ ps, p.b <= 3 /\ p.m.length < 4000) (st : List Cell) : f_q7 [.tup (ps.map Pl.w)] st = .ok (.bl (isTr ps 0)) st := by
  refine run_self' ?_
  apply sat_seq
  · exact k_set k_C
  have hl : 0 < ps.length := List.length_pos_iff.mpr hne
  have hx : xFor (itAny (eVar 0)) (gNm 2) tBody [some (.tup (ps.map Pl.w)), some (.int 0), none] st = forW (gNm 2) tBody none (ps.map Pl.w) [some (.tup (ps.map Pl.w)), some (.int (0 : Nat)), none] st := xFor_nx (i_any_t (k_var rfl))
  have l0 : ∀ {ρ : EnvW} (hρ : ρ[0]? = some (some (.tup (ps.map Pl.w)))), e2 wEq (eCall bLen (aCons (eVar 0) aNil)) (eC (.int 0)) ρ st = .ok (.bl false) st := fun {ρ} hρ => k_2 (k_call (k_cons (k_var hρ) k_nil) o_lenT) k_C (o_eqI (by rw [List.length_map, beq_eq_false_iff_ne]; omega))
  rcases tLoop_ok (t := .tup (ps.map Pl.w)) st ps 0 none hp with ⟨h, o', e⟩ | ⟨h, e | ⟨z, o', hz, e⟩⟩
  · rw [h]
    refine sat_seq (hx.trans e) ?_
    apply sat_ret
    · exact k_or_f (l0 rfl) (k_2 (k_var rfl) k_C (o_eqI rfl))
    · exact ⟨_, _, rfl, rfl, rfl⟩
  · rw [h]
    refine sat_eq (k_seqR (hx.trans e)) ?_
    exact ⟨_, _, rfl, rfl, rfl⟩
  · rw [h]
    refine sat_seq (hx.trans e) ?_
    apply sat_ret
    · exact k_or_f (l0 rfl) (k_2 (k_var rfl) k_C (o_eqI (beq_eq_false_iff_ne.mpr hz)))
    · exact ⟨_, _, rfl, rfl, rfl⟩
end P
set_option Elab.async false
set_option linter.all false
set_option maxRecDepth 100000
set_option maxHeartbeats 4000000
namespace P
open PySem L2
section
variable {ρ ρ0 : EnvW} {st st1 st2 : List Cell} {f : FG} {el fa fb : FE} {fs : FA} {ck : Option (Nat × List W)} {c : Str}
theorem compWE_all (hc : chkOk st ck) (Y : W -> W) : ∀ (ws acc : List W), (∀ w ∈ ws, ∃ ρ', f w ρ0 = some ρ' /\ el ρ' st = .ok (Y w) st) -> compWE f el ck ρ0 ws acc st = .ok (acc ++ ws.map Y) st
  | [], acc, _ => by unfold compWE; rw [if_pos hc]; simp
  | w :: ws, acc, h => by
    obtain ⟨ρ', e1, e3⟩ := h w (by simp)
    have ih := fun acc => compWE_all hc Y ws acc fun w' hw' => h w' (by simp [hw'])
    unfold compWE
    rw [if_pos hc, e1]
    simp only [e3]
    rw [ih]
    simp
theorem compWE_ex (hc : chkOk st ck) : ∀ (ws acc : List W), (∀ w ∈ ws, ∃ ρ', f w ρ0 = some ρ' /\ ((∃ y, el ρ' st = .ok y st) \/ el ρ' st = .ex c st)) -> (∃ w ∈ ws, ∀ ρ', f w ρ0 = some ρ' -> el ρ' st = .ex c st) -> compWE f el ck ρ0 ws acc st = .ex c st
  | [], acc, _, h => by obtain ⟨w, hw, _⟩ := h; simp at hw
  | w :: ws, acc, h, h2 => by
    obtain ⟨ρ', e1, e3⟩ := h w (by simp)
    unfold compWE
    rw [if_pos hc, e1]
    rcases e3 with ⟨y, e3⟩ | e3
    · simp only [e3]
      refine compWE_ex hc ws _ (fun w' hw' => h w' (by simp [hw'])) ?_
      obtain ⟨v, hv, hx⟩ := h2
      rcases List.mem_cons.mp hv with rfl | hv
      · rw [hx ρ' e1] at e3; cases e3
      · exact ⟨v, hv, hx⟩
    · simp only [e3]
theorem k_compE {fi : FI} {n : Nat} {ws : List W} (Y : W -> W) (h : fi ρ st = .ok (ws, ck) st1) (hl : ws.length <= LIM) (hc : chkOk st1 ck) (hs : ∀ w ∈ ws, ∃ ρ', f w (List.replicate n none) = some ρ' /\ el ρ' st1 = .ok (Y w) st1) :
    eCompE n fi f el ρ st = .ok (.loc st1.length) (st1 ++ [.lst (ws.map Y)]) := by
  unfold eCompE
  rw [h]
  simp only [R.bind_ok]
  rw [if_pos hl, compWE_all hc Y ws [] hs]
  simp only [R.bind_ok, List.nil_append, mkLst]
  rw [if_pos (by rw [List.length_map]; exact hl)]
theorem k_compE_ex {fi : FI} {n : Nat} {ws : List W} (h : fi ρ st = .ok (ws, ck) st1) (hl : ws.length <= LIM) (hc : chkOk st1 ck) (hs : ∀ w ∈ ws, ∃ ρ', f w (List.replicate n none) = some ρ' /\ ((∃ y, el ρ' st1 = .ok y st1) \/ el ρ' st1 = .ex c st1))
    (hx : ∃ w ∈ ws, ∀ ρ', f w (List.replicate n none) = some ρ' -> el ρ' st1 = .ex c st1) : eCompE n fi f el ρ st = .ex c st1 := by
  unfold eCompE
  rw [h]
  simp only [R.bind_ok]
  rw [if_pos hl, compWE_ex hc ws [] hs hx]
  rfl
theorem k_call_ex {F : List W -> List Cell -> R W} (h : fs ρ st = .ex c st1) : eCall F fs ρ st = .ex c st1 := by unfold eCall; rw [h]; rfl
theorem k_cons_ex (h : fa ρ st = .ex c st1) : aCons fa fs ρ st = .ex c st1 := by unfold aCons; rw [h]; rfl
end
def figP : List Nat -> Option Pl
  | c :: m => if 48 <= c /\ c <= 51 then some ⟨c - 48, m⟩ else none
  | [] => none
theorem figP_cons (c : Nat) (m : List Nat) : figP (c :: m) = if 48 <= c /\ c <= 51 then some ⟨c - 48, m⟩ else none := rfl
theorem inFig (c : Nat) : inS [[48], [49], [50], [51]] (.str [c]) = decide (48 <= c /\ c <= 51) := by
  rw [Bool.eq_iff_iff, decide_eq_true_iff]
  simp [inS, isS]
  omega
theorem cut1 (l : List Nat) : cutW l none (some 1) = l.take 1 := by
  cases l with
  | nil => rfl
  | cons a r => exact cut_pre (q := 1) (by simp)
theorem fig_none {w : List Nat} (h : figP w = none) (hw : w.length <= 100000) (st : List Cell) : f_q8 [.str w] st = .ex "NoTree" st := by
  refine run_exc ?_
  have hL : w.length <= LIM := by show _ <= 1000000; omega
  have hin : wIn true (.str (w.take 1)) c_FIGURES st = .ok (.bl true) st := by
    have hg : Gd (.str (w.take 1)) := by show (w.take 1).length <= 1000000; rw [List.length_take]; omega
    have := in_S hg true [[48], [49], [50], [51]] st
    rw [show inS [[48], [49], [50], [51]] (.str (w.take 1)) = false by
      cases w with
      | nil => rfl
      | cons c m =>
        show inS _ (.str [c]) = false
        rw [inFig]
        rw [figP_cons] at h
        split at h
        · cases h
        · rename_i hc; exact decide_eq_false hc] at this
    exact this
  apply sat_seq_t
  · exact k_asB (k_2 (k_sl (k_var rfl) k_oN (k_oS k_C) (o_slS hL)) k_C (by rw [cut1]; exact hin))
  exact ⟨_, _, rfl, [], by simp⟩
theorem fig_some {w : List Nat} {p : Pl} (h : figP w = some p) (hw : w.length <= 100000) (st : List Cell) : f_q8 [.str w] st = .ok p.w st := by
  cases w with
  | nil => cases h
  | cons c m =>
    rw [figP_cons] at h
    split at h
    · rename_i hc
      cases h
      have hL : (c :: m).length <= LIM := by show _ <= 1000000; omega
      have hin : wIn true (.str [c]) c_FIGURES st = .ok (.bl false) st := by
        have hg : Gd (.str [c]) := by show [c].length <= 1000000; simp
        have := in_S hg true [[48], [49], [50], [51]] st
        rw [inFig, decide_eq_true hc] at this
        exact this
      have hi : bIntA [.str [c]] st = .ok (.int (c - 48 : Nat)) st := by unfold bIntA; simp only; rw [if_pos hc]
      have hx : wIx (.str (c :: m)) (.int 0) st = .ok (.str [c]) st := o_ixS hL (at_nat (q := 0) rfl)
      refine run_self' ?_
      apply sat_seq_f
      · exact k_asB (k_2 (k_sl (k_var rfl) k_oN (k_oS k_C) (o_slS hL)) k_C (by rw [cut1]; exact hin))
      apply sat_next
      apply sat_ret
      · exact k_tup (k_cons (k_call (k_cons (k_2 (k_var rfl) k_C hx) k_nil) hi) (k_cons (k_sl (k_var rfl) (k_oS k_C) k_oN (o_slS hL)) k_nil)) (Nat.le_of_ble_eq_true rfl)
      · refine ⟨_, _, rfl, ?_, rfl⟩
        rw [show (1 : Int) = ((1 : Nat) : Int) from rfl, cut_suf (by simp)]
        rfl
    · cases h
theorem fig_le {w : List Nat} {p : Pl} (h : figP w = some p) : p.b <= 3 /\ p.m.length <= w.length := by
  cases w with
  | nil => cases h
  | cons c m =>
    rw [figP_cons] at h
    split at h
    · rename_i hc; cases h; exact ⟨by show c - 48 <= 3; omega, by simp⟩
    · cases h
theorem split_le (c : Nat) : ∀ (l : List Nat), ∀ w ∈ splitN c l, w.length <= l.length
  | [], w, hw => by simp [splitN] at hw; subst hw; simp
  | d :: r, w, hw => by
    have ih := split_le c r
    unfold splitN at hw
    split at hw
    · rcases List.mem_cons.mp hw with rfl | hw
      · simp
      · have := ih w hw; simp; omega
    · cases e : splitN c r with
      | nil => rw [e] at hw; simp at hw; subst hw; simp
      | cons p ps =>
        rw [e] at hw ih
        rcases List.mem_cons.mp hw with rfl | hw
        · have := ih p (by simp); simp; omega
        · have := ih w (by simp [hw]); simp; omega
section
variable {T : List Nat}
theorem tree_great (h : 100 <= T.count 32) (st : List Cell) : f_q9 [.str T] st = .ex "TooGreat" st := by
  refine run_exc ?_
  have hc : mCount (.str T) [.str [32]] st = .ok (.int (T.count 32 : Nat)) st := rfl
  apply sat_seq_t
  · exact k_asB (k_2 (k_ms (k_var rfl) rfl (k_cons k_C k_nil) hc) k_C (o_cmp (by simp; omega)))
  exact ⟨_, _, rfl, [], by simp⟩
theorem tree_empty (st : List Cell) : f_q9 [.str [45]] st = .ok (.tup []) st := by
  refine run_self' ?_
  have hc : mCount (.str [45]) [.str [32]] st = .ok (.int 0) st := rfl
  apply sat_seq_f
  · exact k_asB (k_2 (k_ms (k_var rfl) rfl (k_cons k_C k_nil) hc) k_C (o_cmp (by simp)))
  apply sat_next
  apply sat_seq_t
  · exact k_asB (k_2 (k_var rfl) k_C (o_eqS rfl))
  apply sat_seq_ret
  · exact k_tup k_nil (Nat.le_of_ble_eq_true rfl)
  · exact ⟨_, _, rfl, rfl, rfl⟩
variable (hT : T.length <= 3000) (h1 : T.count 32 < 100) (h2 : T ≠ [45])
include hT h1 h2
theorem tree_bad (h : ∃ w ∈ splitN 32 T, figP w = none) (st : List Cell) : f_q9 [.str T] st = .ex "NoTree" st := by
  refine run_exc ?_
  have hc : mCount (.str T) [.str [32]] st = .ok (.int (T.count 32 : Nat)) st := rfl
  apply sat_seq_f
  · exact k_asB (k_2 (k_ms (k_var rfl) rfl (k_cons k_C k_nil) hc) k_C (o_cmp (by simp; omega)))
  apply sat_next
  apply sat_seq_f
  · exact k_asB (k_2 (k_var rfl) k_C (o_eqS (beq_eq_false_iff_ne.mpr h2)))
  apply sat_next
  have hsp := o_split (l := T) (c := 32) (st := st) (by show _ <= 1000000; omega)
  have hce := k_compE_ex (n := 1) (f := gNm 0) (el := eDef 1 f_q8 (aCons (eVar 0) aNil)) (c := "NoTree") (ρ := [some (.str T), none]) (st := st) (fi := itAny (eMS mSplit (eVar 0) (aCons (eC (.str [32])) aNil)))
    (i_any_l (k_ms (k_var rfl) rfl (k_cons k_C k_nil) hsp) (lstOf_l get_new')) (by rw [List.length_map]; have := splitN_len 32 T; show _ <= 1000000; omega) (lstOf_l get_new') (fun w hw => by
      obtain ⟨l, hl, rfl⟩ := List.mem_map.mp hw
      have hll := split_le 32 T l hl
      refine ⟨_, rfl, ?_⟩
      cases e : figP l with
      | none => exact .inr (k_def_ex (k_cons (k_var rfl) k_nil) (fig_none e (by omega) _) rfl)
      | some p => exact .inl ⟨_, k_def (k_cons (k_var rfl) k_nil) (fig_some e (by omega) _) rfl⟩) (by
      obtain ⟨l, hl, e⟩ := h
      have hll := split_le 32 T l hl
      refine ⟨.str l, List.mem_map.mpr ⟨l, hl, rfl⟩, fun ρ' hρ => ?_⟩
      cases hρ
      exact k_def_ex (k_cons (k_var rfl) k_nil) (fig_none e (by omega) _) rfl)
  exact sat_seq_ex (k_set_ex (k_call_ex (k_cons_ex hce))) ⟨_, _, rfl, _, rfl⟩
omit h1 h2 in
theorem figs {ps : List Pl} (h : (splitN 32 T).map figP = ps.map some) : ps ≠ [] /\ ∀ p ∈ ps, p.b <= 3 /\ p.m.length < 4000 := by
  refine ⟨fun z => ?_, fun p hp => ?_⟩
  · rw [z] at h
    have : (splitN 32 T) = [] := by simpa using h
    exact splitN_ne 32 T this
  · have : some p ∈ (splitN 32 T).map figP := by rw [h]; exact List.mem_map.mpr ⟨p, hp, rfl⟩
    obtain ⟨w, hw, e⟩ := List.mem_map.mp this
    have a := fig_le e
    have b := split_le 32 T w hw
    exact ⟨a.1, by omega⟩
theorem tree_good {ps : List Pl} (h : (splitN 32 T).map figP = ps.map some) (st : List Cell) : f_q9 [.str T] st = if isTr ps 0 then .ok (.tup (ps.map Pl.w)) st else .ex "NoTree" st := by
  obtain ⟨hne, hps⟩ := figs hT h
  have hc : mCount (.str T) [.str [32]] st = .ok (.int (T.count 32 : Nat)) st := rfl
  have hsp := o_split (l := T) (c := 32) (st := st) (by show _ <= 1000000; omega)
  have hce := k_compE (n := 1) (f := gNm 0) (el := eDef 1 f_q8 (aCons (eVar 0) aNil)) (ρ := [some (.str T), none]) (st := st) (fi := itAny (eMS mSplit (eVar 0) (aCons (eC (.str [32])) aNil)))
    (fun w => match w with | .str l => (match figP l with | some p => p.w | none => .non) | _ => .non)
    (i_any_l (k_ms (k_var rfl) rfl (k_cons k_C k_nil) hsp) (lstOf_l get_new')) (by rw [List.length_map]; have := splitN_len 32 T; show _ <= 1000000; omega) (lstOf_l get_new') (fun w hw => by
      obtain ⟨l, hl, rfl⟩ := List.mem_map.mp hw
      have hll := split_le 32 T l hl
      refine ⟨_, rfl, ?_⟩
      have : figP l ∈ (splitN 32 T).map figP := List.mem_map.mpr ⟨l, hl, rfl⟩
      rw [h] at this
      obtain ⟨p, _, e⟩ := List.mem_map.mp this
      simp only [<- e]
      exact k_def (k_cons (k_var rfl) k_nil) (fig_some e.symm (by omega) _) rfl)
  have em : ((splitN 32 T).map W.str).map (fun w => match w with | .str l => (match figP l with | some p => p.w | none => W.non) | _ => .non) = ps.map Pl.w := by
    rw [List.map_map]
    have e1 : ((splitN 32 T).map figP).map (fun o => match o with | some p => p.w | none => W.non) = (ps.map some).map (fun o => match o with | some p => p.w | none => W.non) := by rw [h]
    rw [List.map_map, List.map_map] at e1
    exact e1
  rw [em] at hce
  have pre : ∀ {P : RS -> Prop}, Sat P (xSeq (xIf (bnt (asB (eDef 1 f_q7 (aCons (eVar 1) aNil)))) (xRaise "NoTree") xNext) (xRet (eVar 1)) [some (.str T), some (.tup (ps.map Pl.w))] (st ++ [Cell.lst ((splitN 32 T).map W.str)] ++ [Cell.lst (ps.map Pl.w)])) -> Sat P (g_q9 [some (.str T), none] st) := fun {P} hk => by
    apply sat_seq_f
    · exact k_asB (k_2 (k_ms (k_var rfl) rfl (k_cons k_C k_nil) hc) k_C (o_cmp (by simp; omega)))
    apply sat_next
    apply sat_seq_f
    · exact k_asB (k_2 (k_var rfl) k_C (o_eqS (beq_eq_false_iff_ne.mpr h2)))
    apply sat_next
    apply sat_seq
    · exact k_set (k_call (k_cons hce k_nil) (o_tupL (lstOf_l get_new')))
    exact hk
  by_cases ht : isTr ps 0 = true
  · rw [if_pos ht]
    refine run_is (w := .tup (ps.map Pl.w)) (pre ?_) (by simp only [undWs, Bool.and_true]; exact und_pls ps _)
    have e := is_tree_ok hne hps (st ++ [Cell.lst ((splitN 32 T).map W.str)] ++ [Cell.lst (ps.map Pl.w)])
    rw [ht] at e
    apply sat_seq_f
    · exact k_bnt (k_asB (k_def (k_cons (k_var rfl) k_nil) e rfl)) rfl
    apply sat_next
    apply sat_ret
    · exact k_var rfl
    · exact ⟨_, _, rfl, rfl, _, by rw [List.append_assoc]⟩
  · rw [if_neg ht]
    refine run_exc (pre ?_)
    have e := is_tree_ok hne hps (st ++ [Cell.lst ((splitN 32 T).map W.str)] ++ [Cell.lst (ps.map Pl.w)])
    rw [show isTr ps 0 = false by cases q : isTr ps 0 with | false => rfl | true => exact absurd q ht] at e
    apply sat_seq_t
    · exact k_bnt (k_asB (k_def (k_cons (k_var rfl) k_nil) e rfl)) rfl
    exact ⟨_, _, rfl, _, by rw [List.append_assoc]⟩
end
theorem read_ok {T : List Nat} {w : W} {st : List Cell} (h : f_q9 [.str T] st = .ok w st) (hu : w.und st.length = true) : f_q23 [.str T] st = .ok (.tup [.str TLD, w]) st := by
  refine run_is (w := .tup [.str TLD, w]) ?_ (by simp [undWs, W.und, hu])
  apply sat_seq
  · apply k_try_ok
    exact k_set (k_def (k_cons (k_var rfl) k_nil) h rfl)
  apply sat_ret
  · exact k_tup (k_cons k_C (k_cons (k_var rfl) k_nil)) (Nat.le_of_ble_eq_true rfl)
  · exact ⟨_, _, rfl, rfl, [], by simp⟩
theorem read_tree_no {T : List Nat} {st : List Cell} (h : f_q9 [.str T] st = .ex "NoTree" st) : f_q23 [.str T] st = .ok (refW true false) st := by
  have hx : (st ++ [Cell.exc "NoTree"])[st.length]? = some (.exc "NoTree") := get_new'
  refine run_is (w := refW true false) ?_ rfl
  refine sat_eq (k_seqR (k_try_rt (c := "NoTree") (st1 := st) (k_set_ex (k_def_ex (k_cons (k_var rfl) k_nil) h rfl)) (by decide) (k_ret (k_tup (k_cons k_C (k_cons (k_def (k_cons (k_var rfl) k_nil) (kinds_ok (t0 := true) (a := false) (b := false) hx rfl rfl rfl rfl rfl rfl rfl rfl rfl rfl) rfl) k_nil)) (Nat.le_of_ble_eq_true rfl))))) ?_
  exact ⟨_, _, rfl, rfl, _, rfl⟩
theorem read_great {T : List Nat} {st : List Cell} (h : f_q9 [.str T] st = .ex "TooGreat" st) : f_q23 [.str T] st = .ok (refW false true) st := by
  have hx : (st ++ [Cell.exc "TooGreat"])[st.length]? = some (.exc "TooGreat") := get_new'
  refine run_is (w := refW false true) ?_ rfl
  refine sat_eq (k_seqR (k_try_rt (c := "TooGreat") (st1 := st) (k_set_ex (k_def_ex (k_cons (k_var rfl) k_nil) h rfl)) (by decide) (k_ret (k_tup (k_cons k_C (k_cons (k_def (k_cons (k_var rfl) k_nil) (kinds_ok (t0 := false) (a := false) (b := true) hx rfl rfl rfl rfl rfl rfl rfl rfl rfl rfl) rfl) k_nil)) (Nat.le_of_ble_eq_true rfl))))) ?_
  exact ⟨_, _, rfl, rfl, _, rfl⟩
end P
set_option Elab.async false
set_option linter.all false
set_option maxRecDepth 100000
set_option maxHeartbeats 4000000
namespace P
open PySem L2
theorem k_asg {fe : FE} {f : FG} {ρ ρ' : EnvW} {st st1 : List Cell} {w : W} (h : fe ρ st = .ok w st1) (h2 : f w ρ = some ρ') : xAsg fe f ρ st = .nx ρ' st1 := by
  unfold xAsg; rw [h]; simp only [R.stmt_ok]; rw [h2]
def optW : Option Pl -> W
  | none => .non
  | some p => p.w
def dueP (w : List Nat) : Option Pl := match figP w with
  | some p => if rowB p.m then some p else none
  | none => none
noncomputable abbrev dBody : FS := (xSeq (xSet 3 (eMS mFind (eDef 0 f_q18 aNil) (aCons (eVar 2) aNil))) (xSeq (xIf (asB (e2 wLeD (eVar 3) (eVar 1))) (xRet (eC .non)) xNext) (xSet 1 (eVar 3))))
theorem letters_ok (st : List Cell) : f_q18 [] st = .ok (.str LL) st := by
  refine run_self' ?_
  apply sat_ret
  · exact k_C
  · exact ⟨_, _, rfl, rfl, rfl⟩
theorem dLoop_ok {t : W} (st : List Cell) : ∀ (m : List Nat) (k : Int) (o2 o3 : Option W),
    (rise k m = true /\ ∃ k' o2' o3', forW (gNm 2) dBody none (signsW m) [some t, some (.int k), o2, o3] st = .nx [some t, some (.int k'), o2', o3'] st) \/ (rise k m = false /\ forW (gNm 2) dBody none (signsW m) [some t, some (.int k), o2, o3] st = .rt .non st)
  | [], k, o2, o3 => .inl ⟨rfl, k, o2, o3, for_nil⟩
  | c :: m, k, o2, o3 => by
    have hf : mFind (.str LL) [.str [c]] st = .ok (.int (findN LL c)) st := rfl
    have s1 : xSet 3 (eMS mFind (eDef 0 f_q18 aNil) (aCons (eVar 2) aNil)) [some t, some (.int k), some (.str [c]), o3] st = .nx [some t, some (.int k), some (.str [c]), some (.int (findN LL c))] st :=
      k_set (k_ms (k_def k_nil (letters_ok st) rfl) rfl (k_cons (k_var rfl) k_nil) hf)
    unfold rise
    show (_ /\ ∃ k' o2' o3', forW (gNm 2) dBody none (.str [c] :: signsW m) _ st = _) \/ (_ /\ forW (gNm 2) dBody none (.str [c] :: signsW m) _ st = _)
    by_cases h : findN LL c <= k
    · rw [if_pos h]
      exact .inr ⟨rfl, for_rt (f := gNm 2) rfl (k_seq s1 (seq_rt (k_if_t (k_asB (k_2 (k_var rfl) (k_var rfl) (o_leI (decide_eq_true h)))) (k_ret k_C))))⟩
    · rw [if_neg h]
      rw [for_nx (f := gNm 2) (ρ := [some t, some (.int k), o2, o3]) (ρ2 := [some t, some (.int (findN LL c)), some (.str [c]), some (.int (findN LL c))]) rfl (k_seq s1 (k_seq (k_if_f (k_asB (k_2 (k_var rfl) (k_var rfl) (o_leI (decide_eq_false h)))) k_next) (k_set (k_var rfl))))]
      exact dLoop_ok st m (findN LL c) _ _
theorem in0123 (c : Nat) (st : List Cell) : wIn true (.str [c]) (.str [48, 49, 50, 51]) st = .ok (.bl (!decide (48 <= c /\ c <= 51))) st := by
  show R.ok (W.bl (!decide (c ∈ [48, 49, 50, 51]))) st = _
  congr 3
  rw [decide_eq_decide]
  simp; omega
theorem due_place_ok {w : List Nat} (hw : w.length <= 100000) (st : List Cell) : f_q24 [.str w] st = .ok (optW (dueP w)) st := by
  have hL : w.length <= LIM := by show _ <= 1000000; omega
  cases w with
  | nil =>
    refine run_self' ?_
    apply sat_seq_t
    · exact k_bor_t (k_asB (k_2 (k_var rfl) k_C (o_eqS rfl)))
    apply sat_seq_ret
    · exact k_C
    · exact ⟨_, _, rfl, rfl, rfl⟩
  | cons c m =>
    have hx : ∀ st : List Cell, wIx (.str (c :: m)) (.int 0) st = .ok (.str [c]) st := fun st => o_ixS hL (at_nat (q := 0) rfl)
    have hcut : cutW (c :: m) (some 1) none = m := by rw [show (1 : Int) = ((1 : Nat) : Int) from rfl, cut_suf (by simp)]; rfl
    have hsl : ∀ st : List Cell, wSl (.str (c :: m)) (some 1) none st = .ok (.str m) st := fun st => by have := o_slS (l := some 1) (h := none) (st := st) hL; rw [hcut] at this; exact this
    have ne : ((c :: m) == ([] : List Nat)) = false := rfl
    by_cases hc : 48 <= c /\ c <= 51
    · have hin := in0123 c st
      rw [decide_eq_true hc] at hin
      have hf : figP (c :: m) = some ⟨c - 48, m⟩ := by rw [figP_cons, if_pos hc]
      have hi : ∀ st : List Cell, bIntA [.str [c]] st = .ok (.int (c - 48 : Nat)) st := fun st => by unfold bIntA; simp only; rw [if_pos hc]
      have hd : dueP (c :: m) = if rowB m then some ⟨c - 48, m⟩ else none := by unfold dueP; rw [hf]
      rw [hd]
      have pre : ∀ {P : RS -> Prop}, Sat P (xSeq (xFor (itAny (eSl (eVar 0) (oSome (eC (.int 1))) oNone)) (gNm 2) dBody) (xRet (eTup (aCons (eCall bIntA (aCons (e2 wIx (eVar 0) (eC (.int 0))) aNil)) (aCons (eSl (eVar 0) (oSome (eC (.int 1))) oNone) aNil)))) [some (.str (c :: m)), some (.int (-1)), none, none] st) -> Sat P (g_q24 [some (.str (c :: m)), none, none, none] st) := fun {P} hk => by
        apply sat_seq_f
        · exact k_bor_f (k_asB (k_2 (k_var rfl) k_C (o_eqS ne))) (k_asB (k_2 (k_2 (k_var rfl) k_C (hx st)) k_C hin))
        apply sat_next
        apply sat_seq
        · exact k_set (k_neg k_C)
        exact hk
      refine run_self' (pre ?_)
      have hfor : xFor (itAny (eSl (eVar 0) (oSome (eC (.int 1))) oNone)) (gNm 2) dBody [some (.str (c :: m)), some (.int (-1)), none, none] st = forW (gNm 2) dBody none (signsW m) [some (.str (c :: m)), some (.int (-1)), none, none] st := xFor_nx (i_any_s (k_sl (k_var rfl) (k_oS k_C) k_oN (hsl st)))
      rcases dLoop_ok (t := .str (c :: m)) st m (-1) none none with ⟨h, k', o2, o3, e⟩ | ⟨h, e⟩
      · rw [show rowB m = true from h, if_pos rfl]
        refine sat_seq (hfor.trans e) ?_
        apply sat_ret
        · exact k_tup (k_cons (k_call (k_cons (k_2 (k_var rfl) k_C (hx st)) k_nil) (hi st)) (k_cons (k_sl (k_var rfl) (k_oS k_C) k_oN (hsl st)) k_nil)) (Nat.le_of_ble_eq_true rfl)
        · exact ⟨_, _, rfl, rfl, rfl⟩
      · rw [show rowB m = false from h, if_neg (by simp)]
        refine sat_eq (k_seqR (hfor.trans e)) ?_
        exact ⟨_, _, rfl, rfl, rfl⟩
    · have hin := in0123 c st
      rw [decide_eq_false hc] at hin
      have hf : figP (c :: m) = none := by rw [figP_cons, if_neg hc]
      have hd : dueP (c :: m) = none := by unfold dueP; rw [hf]
      rw [hd]
      refine run_self' ?_
      apply sat_seq_t
      · exact k_bor_f (k_asB (k_2 (k_var rfl) k_C (o_eqS ne))) (k_asB (k_2 (k_2 (k_var rfl) k_C (hx st)) k_C hin))
      apply sat_seq_ret
      · exact k_C
      · exact ⟨_, _, rfl, rfl, rfl⟩
def stO : Option Nat -> Option Pl -> Option Nat
  | some n, some p => if n < 1 then none else some (n - 1 + ar p)
  | _, _ => none
theorem stO_n (a : Option Nat) : stO a none = none := by cases a <;> rfl
theorem stO_l (o : Option Pl) : stO none o = none := by cases o <;> rfl
def rtO : List (Option Pl) -> Option Nat
  | [] => some 1
  | o :: l => stO (rtO l) o
theorem rtO_drop : ∀ {l : List (Option Pl)} (n : Nat), rtO (l.drop n) = none -> rtO l = none
  | l, 0, h => h
  | [], n + 1, h => by simpa using h
  | o :: l, n + 1, h => by
    have := rtO_drop (l := l) n (by simpa using h)
    show stO (rtO l) o = none
    rw [this, stO_l]
theorem down_succ (n : Nat) : downW ((n + 1 : Nat) - 1 : Int) (n + 1) = .int (n : Nat) :: downW ((n : Int) - 1) n := by
  unfold downW
  rw [List.range_succ_eq_map, List.map_cons, List.map_map]
  congr 1
  · congr 1; omega
  · refine List.map_congr_left fun k _ => ?_
    show W.int _ = W.int _
    congr 1
    omega
noncomputable abbrev nBody : FS := (xSeq (xIf (bor (asB (e2 wLt' (eVar 3) (eC (.int 1)))) (asB (eIsN (e2 wIx (eVar 2) (eVar 4))))) (xRet (eDef 1 f_q21 (aCons (eC (.int 1)) aNil))) xNext) (xSet 3 (e2 wAdd (e2 wSub (eVar 3) (eC (.int 1))) (e2 wFdiv (e2 wAdd (e2 wIx (e2 wIx (eVar 2) (eVar 4)) (eC (.int 0))) (eC (.int 1))) (eC (.int 2))))))
theorem ref1 (st : List Cell) : f_q21 [.int 1] st = .ok (refW true false) st := refusal_ok 1 st
theorem ref5 (st : List Cell) : f_q21 [.int 5] st = .ok (refW false true) st := refusal_ok 5 st
theorem nLoop_ok {o0 o1 : Option W} {q : Nat} {pls : List (Option Pl)} (st : List Cell) (hq : st[q]? = some (.lst (pls.map optW))) : ∀ (n N : Nat) (o4 : Option W), n <= pls.length -> rtO (pls.drop n) = some N ->
    (∃ N' o', rtO pls = some N' /\ forW (gNm 4) nBody none (downW ((n : Int) - 1) n) [o0, o1, some (.loc q), some (.int (N : Nat)), o4] st = .nx [o0, o1, some (.loc q), some (.int (N' : Nat)), o'] st) \/
    (rtO pls = none /\ forW (gNm 4) nBody none (downW ((n : Int) - 1) n) [o0, o1, some (.loc q), some (.int (N : Nat)), o4] st = .rt (refW true false) st)
  | 0, N, o4, _, h => .inl ⟨N, o4, h, for_nil⟩
  | n + 1, N, o4, hn, h => by
    rw [down_succ]
    obtain ⟨o, ho⟩ : ∃ o, pls[n]? = some o := ⟨_, List.getElem?_eq_getElem (by omega)⟩
    have ed : pls.drop n = o :: pls.drop (n + 1) := by
      obtain ⟨h1, h2⟩ := List.getElem?_eq_some_iff.mp ho
      rw [List.drop_eq_getElem_cons h1, h2]
    have ix : wIx (.loc q) (.int (n : Nat)) st = .ok (optW o) st := o_ixL (lstOf_l hq) (at_nat (by rw [List.getElem?_map, ho]; rfl))
    have er : rtO (pls.drop n) = stO (some N) o := by rw [ed, <- h]; rfl
    by_cases h1 : N < 1
    · have e0 : rtO pls = none := rtO_drop n (by rw [er]; cases o with | none => rfl | some p => simp [stO, h1])
      exact .inr ⟨e0, for_rt (f := gNm 4) rfl (seq_rt (k_if_t (k_bor_t (k_asB (k_2 (k_var rfl) k_C (o_cmp (by simp; omega))))) (k_ret (k_def (k_cons k_C k_nil) (ref1 st) rfl))))⟩
    · have t1 : ∀ ρ : EnvW, ρ[3]? = some (some (.int (N : Nat))) -> asB (e2 wLt' (eVar 3) (eC (.int 1))) ρ st = .ok false st := fun ρ hρ => k_asB (k_2 (k_var hρ) k_C (o_cmp (by simp; omega)))
      cases o with
      | none =>
        have e0 : rtO pls = none := rtO_drop n er
        exact .inr ⟨e0, for_rt (f := gNm 4) rfl (seq_rt (k_if_t (k_bor_f (t1 _ rfl) (k_asB (k_isN (k_2 (k_var rfl) (k_var rfl) ix) rfl))) (k_ret (k_def (k_cons k_C k_nil) (ref1 st) rfl))))⟩
      | some p =>
        have er : rtO (pls.drop n) = some (N - 1 + ar p) := by rw [er]; simp [stO, h1]
        have ez : (N : Int) - 1 + ((p.b : Nat) + 1) / 2 = ((N - 1 + ar p : Nat) : Int) := by unfold ar; omega
        have c2 : (0 : Int) < 2 /\ (2 : Int) < 1073741824 := by decide
        have sb : nBody [o0, o1, some (.loc q), some (.int (N : Nat)), some (.int (n : Nat))] st = .nx [o0, o1, some (.loc q), some (.int ((N - 1 + ar p : Nat) : Int)), some (.int (n : Nat))] st := by
          rw [<- ez]
          exact k_seq (k_if_f (k_bor_f (t1 _ rfl) (k_asB (k_isN (k_2 (k_var rfl) (k_var rfl) ix) rfl))) k_next) (k_set (k_2 (k_2 (k_var rfl) k_C (o_II trivial)) (k_2 (k_2 (k_2 (k_2 (k_var rfl) (k_var rfl) ix) k_C (pl_b p st)) k_C o_addI) k_C (o_II c2)) o_addI))
        rw [for_nx (f := gNm 4) (ρ := [o0, o1, some (.loc q), some (.int (N : Nat)), o4]) rfl sb]
        exact nLoop_ok st hq n _ _ (by omega) er
def dueW (T : List Nat) : W := if 100 <= T.count 32 then refW false true else if T = [45] then .tup [.str TLD, .tup []] else match rtO ((splitN 32 T).map dueP) with
  | some 0 => .tup [.str TLD, .tup (((splitN 32 T).map dueP).map optW)]
  | _ => refW true false
theorem blanks_ok {T : List Nat} (hT : T.length <= 3000) {ρ : EnvW} {i : Nat} (hρ : ρ[i]? = some (some (.str T))) (st : List Cell) : ∃ x, eCall bLen (aCons (eComp [none] (itAny (eVar i)) (gNm 0) (asB (e2 wEq (eVar 0) (eC (.str [32])))) (eVar 0)) aNil) ρ st = .ok (.int (T.count 32 : Nat)) (st ++ [x]) := by
  have hcm := k_comp (cap := [none]) (f := gNm 0) (t := asB (e2 wEq (eVar 0) (eC (.str [32])))) (el := eVar 0) (ρ := ρ) (st := st) (fun w => isS [32] w) (fun w => w) (i_any_s (fe := eVar i) (st1 := st) (l := T) (k_var hρ)) (by rw [signs_len]; show _ <= 1000000; omega) trivial fun w hw => by
    obtain ⟨c, _, rfl⟩ := List.mem_map.mp hw
    exact ⟨_, rfl, k_asB (k_2 (k_var rfl) k_C (eq_S (by show [c].length <= 1000000; simp) [32] st)), fun _ => k_var rfl⟩
  have hl := o_lenL (lstOf_l (get_new' (s := st) (c := Cell.lst (((signsW T).filter fun w => isS [32] w).map fun w => w))))
  have hcount : (((signsW T).filter fun w => isS [32] w).map fun w => w).length = T.count 32 := by
    rw [List.length_map]
    unfold signsW
    rw [List.filter_map, List.length_map, List.count_eq_length_filter]
    congr 1
    refine List.filter_congr fun c _ => ?_
    show isS [32] (.str [c]) = _
    simp [isS]
  rw [hcount] at hl
  exact ⟨_, k_call (k_cons hcm k_nil) hl⟩
theorem und_opts (ps : List (Option Pl)) (n : Nat) : undWs n (ps.map optW) = true := by
  induction ps with
  | nil => rfl
  | cons x r ih => cases x <;> simp only [List.map_cons, undWs, ih, Bool.and_true] <;> rfl
theorem und_due (T : List Nat) (n : Nat) : undWs n [dueW T] = true := by
  have e : (W.tup [.str TLD, .tup (((splitN 32 T).map dueP).map optW)]).und n = true := by
    simp only [W.und, undWs, Bool.and_true, Bool.true_and]
    exact und_opts _ n
  simp only [undWs, Bool.and_true]
  unfold dueW
  split
  · rfl
  · split
    · rfl
    · split
      · exact e
      · rfl
theorem due_ok {T : List Nat} (hT : T.length <= 3000) (st : List Cell) : f_q25 [.str T] st = .ok (dueW T) st := by
  refine run_is (w := dueW T) ?_ (und_due T _)
  obtain ⟨x, hx⟩ := blanks_ok hT (ρ := [some (.str T), none, none, none, none]) (i := 0) rfl st
  apply sat_seq
  · exact k_set hx
  unfold dueW
  by_cases h1 : 100 <= T.count 32
  · rw [if_pos h1]
    apply sat_seq_t
    · exact k_asB (k_2 (k_var rfl) k_C (o_cmp (by simp; omega)))
    apply sat_seq_ret
    · exact k_def (k_cons k_C k_nil) (ref5 _) rfl
    · exact ⟨_, _, rfl, rfl, _, rfl⟩
  rw [if_neg h1]
  apply sat_seq_f
  · exact k_asB (k_2 (k_var rfl) k_C (o_cmp (by simp; omega)))
  apply sat_next
  by_cases h2 : T = [45]
  · rw [if_pos h2]
    apply sat_seq_t
    · exact k_asB (k_2 (k_var rfl) k_C (o_eqS (by simpa using h2)))
    apply sat_seq_ret
    · exact k_tup (k_cons k_C (k_cons (k_tup k_nil (Nat.le_of_ble_eq_true rfl)) k_nil)) (Nat.le_of_ble_eq_true rfl)
    · exact ⟨_, _, rfl, rfl, _, rfl⟩
  rw [if_neg h2]
  apply sat_seq_f
  · exact k_asB (k_2 (k_var rfl) k_C (o_eqS (beq_eq_false_iff_ne.mpr h2)))
  apply sat_next
  generalize hs0 : st ++ [x] = s0
  have hsp := o_split (l := T) (c := 32) (st := s0) (by show _ <= 1000000; omega)
  have hcm := k_compY (cap := [none]) (f := gNm 0) (el := eDef 1 f_q24 (aCons (eVar 0) aNil)) (ρ := [some (.str T), some (.int (T.count 32 : Nat)), none, none, none]) (st := s0) (fi := itAny (eMS mSplit (eVar 0) (aCons (eC (.str [32])) aNil)))
    (fun w => match w with | .str l => optW (dueP l) | _ => .non) (i_any_l (k_ms (k_var rfl) rfl (k_cons k_C k_nil) hsp) (lstOf_l get_new')) (by rw [List.length_map]; have := splitN_len 32 T; show _ <= 1000000; omega) (lstOf_l get_new') (fun w hw => by
      obtain ⟨l, hl, rfl⟩ := List.mem_map.mp hw
      have hll := split_le 32 T l hl
      exact ⟨_, rfl, k_def (k_cons (k_var rfl) k_nil) (due_place_ok (by omega) _) rfl⟩)
  have em : ((splitN 32 T).map W.str).map (fun w => match w with | .str l => optW (dueP l) | _ => W.non) = ((splitN 32 T).map dueP).map optW := by
    rw [List.map_map, List.map_map]; rfl
  rw [em] at hcm
  generalize hpl : (splitN 32 T).map dueP = pls at hcm ⊢
  have hpll : pls.length <= 3001 := by rw [<- hpl, List.length_map]; have := splitN_len 32 T; omega
  generalize hs1 : s0 ++ [Cell.lst ((splitN 32 T).map W.str)] = s1 at hcm
  apply sat_seq
  · exact k_asg hcm rfl
  generalize hs2 : s1 ++ [Cell.lst (pls.map optW)] = s2
  have hq : s2[s1.length]? = some (.lst (pls.map optW)) := by rw [<- hs2]; exact get_new'
  have hst : ∃ y, s2 = st ++ y := ⟨_, by rw [<- hs2, <- hs1, <- hs0, List.append_assoc, List.append_assoc]⟩
  have hll : bLen [.loc s1.length] s2 = .ok (.int (pls.length : Nat)) s2 := by have := o_lenL (lstOf_l hq); rw [List.length_map] at this; exact this
  apply sat_seq
  · exact k_set k_C
  have hfor : xFor (itDown (aCons (e2 wSub (eCall bLen (aCons (eVar 2) aNil)) (eC (.int 1))) (aCons (eNeg (eC (.int 1))) (aCons (eNeg (eC (.int 1))) aNil)))) (gNm 4) nBody [some (.str T), some (.int (T.count 32 : Nat)), some (.loc s1.length), some (.int 1), none] s2 = forW (gNm 4) nBody none (downW ((pls.length : Int) - 1) pls.length) [some (.str T), some (.int (T.count 32 : Nat)), some (.loc s1.length), some (.int (1 : Nat)), none] s2 := by
    have hi : itDown (aCons (e2 wSub (eCall bLen (aCons (eVar 2) aNil)) (eC (.int 1))) (aCons (eNeg (eC (.int 1))) (aCons (eNeg (eC (.int 1))) aNil))) [some (.str T), some (.int (T.count 32 : Nat)), some (.loc s1.length), some (.int 1), none] s2 = .ok (downW ((pls.length : Int) - 1) pls.length, none) s2 := by
      unfold itDown
      rw [k_cons (x := .int ((pls.length : Int) - 1)) (xs := [.int (-1), .int (-1)]) (st1 := s2) (st2 := s2) (k_2 (k_call (k_cons (k_var rfl) k_nil) hll) k_C (o_II trivial)) (k_cons (k_neg k_C) (k_cons (k_neg k_C) k_nil))]
      simp only [R.bind_ok]
      rw [if_pos ⟨trivial, by omega, by omega, by decide, by decide⟩]
      congr 3
      omega
    exact xFor_nx hi
  rcases nLoop_ok (o0 := some (.str T)) (o1 := some (.int (T.count 32 : Nat))) s2 hq pls.length 1 none (Nat.le_refl _) (by rw [List.drop_of_length_le (Nat.le_refl _)]; rfl) with ⟨N', o', e0, e⟩ | ⟨e0, e⟩
  · refine sat_seq (hfor.trans e) ?_
    rw [e0]
    by_cases hN : N' = 0
    · subst hN
      apply sat_seq_f
      · exact k_asB (k_2 (k_var rfl) k_C (o_cmp (by simp)))
      apply sat_next
      apply sat_ret
      · exact k_tup (k_cons k_C (k_cons (k_call (k_cons (k_var rfl) k_nil) (o_tupL (lstOf_l hq))) k_nil)) (Nat.le_of_ble_eq_true rfl)
      · obtain ⟨y, rfl⟩ := hst
        exact ⟨_, _, rfl, rfl, _, rfl⟩
    · apply sat_seq_t
      · exact k_asB (k_2 (k_var rfl) k_C (o_cmp (by simp; omega)))
      apply sat_seq_ret
      · exact k_def (k_cons k_C k_nil) (ref1 _) rfl
      · obtain ⟨y, rfl⟩ := hst
        refine ⟨_, _, rfl, ?_, _, rfl⟩
        split
        · rename_i z; cases z; exact absurd rfl hN
        · rfl
  · refine sat_eq (k_seqR (hfor.trans e)) ?_
    obtain ⟨y, rfl⟩ := hst
    rw [e0]
    exact ⟨_, _, rfl, rfl, _, rfl⟩
theorem rtO_rt : ∀ (ps : List Pl), rtO (ps.map fun p => if rowB p.m then some p else none) = if ∀ p ∈ ps, rowB p.m = true then rt (ps.map ar) else none
  | [] => rfl
  | p :: l => by
    have ih := rtO_rt l
    rw [List.map_cons]
    show stO (rtO _) _ = _
    rw [ih]
    by_cases h1 : rowB p.m = true
    · rw [if_pos h1]
      by_cases h2 : ∀ q ∈ l, rowB q.m = true
      · rw [if_pos h2, if_pos (by intro q hq; rcases List.mem_cons.mp hq with rfl | hq; exact h1; exact h2 q hq)]
        show _ = match rt (l.map ar) with | some n => if n < 1 then none else some (n - 1 + ar p) | none => none
        cases rt (l.map ar) <;> rfl
      · rw [if_neg h2, if_neg (fun z => h2 fun q hq => z q (by simp [hq])), stO_l]
    · rw [if_neg h1, stO_n, if_neg (fun z => h1 (z p (List.mem_cons_self ..)))]
theorem rtO_none {l : List (Option Pl)} (h : none ∈ l) : rtO l = none := by
  obtain ⟨i, hi⟩ := List.getElem?_of_mem h
  refine rtO_drop i ?_
  obtain ⟨h1, h2⟩ := List.getElem?_eq_some_iff.mp hi
  rw [List.drop_eq_getElem_cons h1, h2]
  exact stO_n _
theorem map_some {α β : Type} (f : α -> Option β) : ∀ l : List α, (∀ x ∈ l, f x ≠ none) -> ∃ r : List β, l.map f = r.map some
  | [], _ => ⟨[], rfl⟩
  | x :: l, h => by
    obtain ⟨r, hr⟩ := map_some f l fun y hy => h y (by simp [hy])
    cases e : f x with
    | none => exact absurd e (h x (by simp))
    | some b => exact ⟨b :: r, by rw [List.map_cons, hr, e]; rfl⟩
theorem law_read_ok {T : List Nat} (hT : T.length <= 3000) (st : List Cell) : f_q23 [.str T] st = .ok (dueW T) st := by
  unfold dueW
  by_cases h1 : 100 <= T.count 32
  · rw [if_pos h1]
    exact read_great (tree_great h1 st)
  rw [if_neg h1]
  by_cases h2 : T = [45]
  · rw [if_pos h2, h2]
    exact read_ok (tree_empty st) rfl
  rw [if_neg h2]
  by_cases h3 : ∃ w ∈ splitN 32 T, figP w = none
  · have e0 : rtO ((splitN 32 T).map dueP) = none := by
      obtain ⟨w, hw, e⟩ := h3
      exact rtO_none (List.mem_map.mpr ⟨w, hw, by unfold dueP; rw [e]⟩)
    rw [e0]
    exact read_tree_no (tree_bad hT (by omega) h2 h3 st)
  · obtain ⟨ps, hps⟩ := map_some figP (splitN 32 T) fun w hw e => h3 ⟨w, hw, e⟩
    have ed : (splitN 32 T).map dueP = ps.map fun p => if rowB p.m then some p else none := by
      have e1 : ((splitN 32 T).map figP).map (fun o => match o with | some p => if rowB p.m then some p else none | none => none) = (ps.map some).map (fun o => match o with | some p => if rowB p.m then some p else none | none => none) := by rw [hps]
      rw [List.map_map, List.map_map] at e1
      exact e1
    rw [ed, rtO_rt]
    have e := tree_good hT (by omega) h2 hps st
    have hi := isTr_iff ps 0
    rw [lf_rt] at hi
    by_cases ht : isTr ps 0 = true
    · rw [if_pos ht] at e
      obtain ⟨r1, r2⟩ := hi.mp ht
      rw [if_pos r1, r2]
      show _ = R.ok (W.tup [.str TLD, .tup ((ps.map fun p => if rowB p.m then some p else none).map optW)]) st
      have em : (ps.map fun p => if rowB p.m then some p else none).map optW = ps.map Pl.w := by
        rw [List.map_map]
        refine List.map_congr_left fun p hp => ?_
        show optW (if rowB p.m then some p else none) = _
        rw [r1 p hp]; rfl
      rw [em]
      exact read_ok e (und_pls ps _)
    · rw [if_neg ht] at e
      rw [read_tree_no e]
      split
      · rename_i z
        exact absurd (hi.mpr (by
          by_cases q : ∀ p ∈ ps, rowB p.m = true
          · rw [if_pos q] at z; exact ⟨q, z⟩
          · rw [if_neg q] at z; cases z)) ht
      · rfl
end P
set_option Elab.async false
set_option linter.all false
set_option maxRecDepth 100000
set_option maxHeartbeats 4000000
namespace P
open PySem L2
theorem same_str (l : List Nat) (k : Nat) (st : List Cell) : f_q14 (k + 1) [.str l, .str l] st = .ok (.bl true) st := by
  refine run_is (N := 3) (ws := [.str l, .str l]) (body := g_q14 (f_q14 k)) ?_ rfl
  (walk_at "go")
  apply sat_ret
  · apply k_and_t
    · (walk_at "evs")
    · (walk_at "evs")
  · exact ⟨_, _, rfl, by simp, [], by simp⟩
theorem same_tup {ws : List W} {k : Nat} {st : List Cell} (hl : ws.length <= 1000) (h : ∀ w ∈ ws, f_q14 k [w, w] st = .ok (.bl true) st) : f_q14 (k + 1) [.tup ws, .tup ws] st = .ok (.bl true) st := by
  refine run_is (N := 3) (ws := [.tup ws, .tup ws]) (body := g_q14 (f_q14 k)) ?_ rfl
  apply sat_seq_t
  · (walk_at "evs")
  apply sat_assoc
  apply sat_seq_f
  · apply k_bor_f
    · (walk_at "evs")
    · (walk_at "evs")
      simp
  apply sat_next
  apply sat_assoc
  refine sat_for (fun i ρ st' => ∃ o, ρ = [some (.tup ws), some (.tup ws), o] /\ st' = st) (i_range1 (by (walk_at "evs")) (by omega)) ⟨none, rfl, rfl⟩ (fun _ _ _ _ => trivial) ?_ ?_
  · rintro i w ρ st' hw ⟨o, rfl, rfl⟩
    obtain ⟨hi, rfl⟩ := rangeW_at hw
    refine ⟨_, rfl, ?_⟩
    have hi' : i < ws.length := by simpa using hi
    have hat : wIx (.tup ws) (.int (0 + (i : Int))) st' = .ok ws[i] st' := o_ixT (by rw [Int.zero_add]; exact at_nat (by simp [hi']))
    have hs := h ws[i] (List.getElem_mem _)
    apply sat_f
    · (walk_at "evs")
    apply sat_eq
    · (walk_at "evs")
    · exact ⟨_, _, rfl, _, rfl, rfl⟩
  · rintro ρ st' ⟨o, rfl, rfl⟩
    apply sat_seq_ret
    · (walk_at "evs")
    · exact ⟨_, _, rfl, rfl, [], by simp⟩
theorem same_bool (b : Bool) (k : Nat) (st : List Cell) : f_q14 (k + 1) [.bl b, .bl b] st = .ok (.bl true) st := by
  have hb : wEq (.bl b) (.bl b) st = .ok (.bl true) st := o_eqB (by simp)
  refine run_is (N := 3) (ws := [.bl b, .bl b]) (body := g_q14 (f_q14 k)) ?_ rfl
  apply sat_seq_f
  · (walk_at "evs")
  apply sat_next
  apply sat_seq_f
  · (walk_at "evs")
  apply sat_next
  apply sat_seq_t
  · (walk_at "evs")
  apply sat_seq_ret
  · apply k_and_t
    · (walk_at "evs")
    · (walk_at "evs")
  · exact ⟨_, _, rfl, rfl, [], by simp⟩
theorem same_int (z : Int) (k : Nat) (st : List Cell) : f_q14 (k + 1) [.int z, .int z] st = .ok (.bl true) st := by
  have hb : wEq (.int z) (.int z) st = .ok (.bl true) st := o_eqI (by simp)
  refine run_is (N := 3) (ws := [.int z, .int z]) (body := g_q14 (f_q14 k)) ?_ rfl
  apply sat_seq_f
  · (walk_at "evs")
  apply sat_next
  apply sat_seq_f
  · (walk_at "evs")
  apply sat_next
  apply sat_seq_f
  · (walk_at "evs")
  apply sat_next
  apply sat_seq_t
  · (walk_at "evs")
  apply sat_seq_ret
  · apply k_and_t
    · (walk_at "evs")
    · apply k_and_t
      · (walk_at "evs")
      · (walk_at "evs")
  · exact ⟨_, _, rfl, by simp, [], by simp⟩
def Sm (w : W) : Prop := ∀ st, f_q14 40 [w, w] st = .ok (.bl true) st
theorem sm_int (z : Int) : Sm (.int z) := fun st => same_int z 39 st
theorem sm_bl (b : Bool) : Sm (.bl b) := fun st => same_bool b 39 st
theorem sm_opt (o : Option Pl) (k : Nat) (st : List Cell) : o ≠ none -> f_q14 (k + 2) [optW o, optW o] st = .ok (.bl true) st := by
  intro h
  cases o with
  | none => exact absurd rfl h
  | some p =>
    refine same_tup (k := k + 1) (by simp) fun w hw => ?_
    rcases List.mem_cons.mp hw with rfl | hw
    · exact same_int _ k st
    · rw [List.mem_singleton.mp hw]; exact same_str _ k st
theorem sm_ref (a b : Bool) (st : List Cell) : f_q14 40 [refW a b, refW a b] st = .ok (.bl true) st := by
  refine same_tup (k := 39) (by simp) fun w hw => ?_
  rcases List.mem_cons.mp hw with rfl | hw
  · exact same_str _ 38 st
  · rw [List.mem_singleton.mp hw]
    refine same_tup (k := 38) (by simp) fun w hw => ?_
    have : ∃ b : Bool, w = .bl b := by
      simp only [List.mem_cons, List.not_mem_nil, or_false] at hw
      rcases hw with h | h | h | h | h | h | h | h | h | h <;> exact ⟨_, h⟩
    obtain ⟨b, rfl⟩ := this
    exact same_bool b 37 st
theorem sm_due {T : List Nat} (hT : T.length <= 3000) (h : T.count 32 < 100 -> (splitN 32 T).length <= 1000) (st : List Cell) : f_q14 40 [dueW T, dueW T] st = .ok (.bl true) st := by
  unfold dueW
  by_cases h1 : 100 <= T.count 32
  · rw [if_pos h1]; exact sm_ref _ _ st
  rw [if_neg h1]
  by_cases h2 : T = [45]
  · rw [if_pos h2]
    refine same_tup (k := 39) (by simp) fun w hw => ?_
    rcases List.mem_cons.mp hw with rfl | hw
    · exact same_str _ 38 st
    · rw [List.mem_singleton.mp hw]
      exact same_tup (k := 38) (by simp) fun w hw => by simp at hw
  rw [if_neg h2]
  split
  · rename_i e
    refine same_tup (k := 39) (by simp) fun w hw => ?_
    rcases List.mem_cons.mp hw with rfl | hw
    · exact same_str _ 38 st
    · rw [List.mem_singleton.mp hw]
      refine same_tup (k := 38) (by rw [List.length_map, List.length_map]; exact h (by omega)) fun w hw => ?_
      obtain ⟨o, ho, rfl⟩ := List.mem_map.mp hw
      refine sm_opt o 36 st fun z => ?_
      subst z
      rw [rtO_none ho] at e; cases e
  · exact sm_ref _ _ st
theorem split_count (c : Nat) : ∀ l : List Nat, (splitN c l).length = l.count c + 1
  | [] => rfl
  | d :: r => by
    have ih := split_count c r
    unfold splitN
    by_cases h : d = c
    · rw [if_pos h, List.length_cons, ih, h, List.count_cons_self]
    · rw [if_neg h, List.count_cons_of_ne h]
      cases e : splitN c r with
      | nil => exact absurd e (splitN_ne c r)
      | cons p ps => rw [e] at ih; simpa using ih
theorem split_sum (c : Nat) : ∀ l : List Nat, ((splitN c l).map List.length).sum <= l.length
  | [] => by simp [splitN]
  | d :: r => by
    have ih := split_sum c r
    unfold splitN
    split
    · simp; omega
    · cases e : splitN c r with
      | nil => simp
      | cons p ps => rw [e] at ih; simp at ih ⊢; omega
theorem sum_set : ∀ (l : List (List Nat)) (i : Nat) (x : List Nat), ((l.set i x).map List.length).sum <= (l.map List.length).sum + x.length
  | [], i, x => by simp
  | y :: l, 0, x => by simp; omega
  | y :: l, i + 1, x => by have := sum_set l i x; simp only [List.set_cons_succ, List.map_cons, List.sum_cons]; omega
theorem cut_len {α : Type} (l : List α) (a b : Option Int) : (cutW l a b).length <= l.length := by
  unfold cutW; rw [List.length_take, List.length_drop]; omega
abbrev SG : List Nat := [32, 33, 34, 35, 36, 38, 39, 40, 41, 42, 43, 44, 45, 46, 47, 48, 49, 50, 51, 52, 53, 54, 55, 56, 57, 58, 59, 60, 61, 62, 63, 64, 65, 66, 67, 68, 69, 70, 71, 72, 73, 74, 75, 76, 77, 78, 79, 80, 81, 82, 83, 84, 85, 86, 87, 88, 89, 90, 91, 92, 93, 94, 95, 96] ++ [97, 98, 99, 100, 101, 102, 103, 104, 105, 106, 107, 108, 109, 110, 111, 112, 113, 114, 115, 116, 117, 118, 119, 120, 121, 122, 123, 124, 125, 126]
theorem signs_ok (st : List Cell) : f_q19 [] st = .ok (.str SG) st := by
  refine run_self' ?_
  apply sat_seq
  · exact k_set k_C
  apply sat_ret
  · exact k_2 (k_var rfl) k_C (o_addS (by decide))
  · exact ⟨_, _, rfl, rfl, rfl⟩
theorem some_ix {l : List Nat} (hl : 0 < l.length) (hL : l.length <= 1000000) (z : Int) (st : List Cell) : ∃ c, wIx (.str l) (.int (z % (l.length : Int))) st = .ok (.str [c]) st := by
  obtain ⟨m, hm, e⟩ := mod_nat (q := z) (n := l.length) hl
  rw [e]
  exact ⟨l[m], o_ixS hL (at_nat (by simp [hm]))⟩
section
variable {T : List Nat} {st : List Cell} {q : Nat} {ds : List Int}
theorem spoilt_ok (hT : T.length <= 700) (hq : st[q]? = some (.lst (ds.map W.int))) (hl : ds.length = 10) : ∃ T' : List Nat, T'.length <= 2850 /\ f_q26 [.str T, .loc q] st = .ok (.str T') st := by
  suffices hh : Sat (rtP fun w st' => (∃ x, st' = st ++ x) /\ undWs st.length [w] = true /\ ∃ T' : List Nat, w = .str T' /\ T'.length <= 2850) (g_q26 ([W.str T, .loc q].map some ++ List.replicate (9 - 2) none) st) by
    obtain ⟨w, ⟨T', rfl, h1⟩, e⟩ := run_val hh
    exact ⟨T', h1, e⟩
  have hL : T.length <= LIM := by show _ <= 1000000; omega
  have hix : ∀ (i : Nat), i < 10 -> ∃ d, ∀ x : List Cell, wIx (.loc q) (.int (i : Nat)) (st ++ x) = .ok (.int d) (st ++ x) := fun i hi => by
    obtain ⟨d, hd⟩ : ∃ d, ds[i]? = some d := ⟨_, List.getElem?_eq_getElem (by omega)⟩
    exact ⟨d, fun x => o_ixL (lstOf_l (cell_old hq)) (at_nat (by rw [List.getElem?_map, hd]; rfl))⟩
  obtain ⟨d0, i0⟩ := hix 0 (by omega)
  obtain ⟨d1, i1⟩ := hix 1 (by omega)
  obtain ⟨d2, i2⟩ := hix 2 (by omega)
  obtain ⟨d3, i3⟩ := hix 3 (by omega)
  obtain ⟨d4, i4⟩ := hix 4 (by omega)
  obtain ⟨d5, i5⟩ := hix 5 (by omega)
  obtain ⟨d6, i6⟩ := hix 6 (by omega)
  have b0 : ∀ {i : Nat} {d : Int}, (∀ x : List Cell, wIx (.loc q) (.int (i : Nat)) (st ++ x) = .ok (.int d) (st ++ x)) -> wIx (.loc q) (.int (i : Nat)) st = .ok (.int d) st := fun h => by have := h []; simpa using this
  obtain ⟨a, ha, ea⟩ := mod_nat (q := d1 + 64 * d2) (n := T.length + 1) (by omega)
  have ea : (d1 + 64 * d2) % ((T.length : Int) + 1) = (a : Int) := ea
  have c64 : ∀ z : Int, cMul 64 z := fun z => .inl (by decide)
  have pT : (0 : Int) < (T.length : Int) + 1 := by omega
  apply sat_seq
  · exact k_set (k_2 (k_2 (k_2 (k_var rfl) k_C (b0 i1)) (k_2 k_C (k_2 (k_var rfl) k_C (b0 i2)) (o_mulI (c64 _))) o_addI) (k_2 (k_call (k_cons (k_var rfl) k_nil) (o_lenS hL)) k_C o_addI) (o_II pT))
  rw [ea]
  obtain ⟨cs, es⟩ := some_ix (l := SG) (by decide) (by decide) (d3 + 64 * d4) st
  have hSl : SG.length <= LIM := by decide
  have pS : (0 : Int) < (SG.length : Int) := by decide
  apply sat_seq
  · exact k_set (k_2 (k_def k_nil (signs_ok st) rfl) (k_2 (k_2 (k_2 (k_var rfl) k_C (b0 i3)) (k_2 k_C (k_2 (k_var rfl) k_C (b0 i4)) (o_mulI (c64 _))) o_addI) (k_call (k_cons (k_def k_nil (signs_ok st) rfl) k_nil) (o_lenS hSl)) (o_II pS)) es)
  obtain ⟨wy, hwy, ew⟩ := mod_nat (q := d0) (n := 10) (by omega)
  have ew : d0 % 10 = (wy : Int) := ew
  apply sat_seq
  · exact k_set (k_2 (k_2 (k_var rfl) k_C (b0 i0)) k_C (o_II (by decide)))
  rw [ew]
  have hsp := o_split (l := T) (c := 32) (st := st) (by show _ <= 1000000; omega)
  apply sat_seq
  · exact k_set (k_ms (k_var rfl) rfl (k_cons k_C k_nil) hsp)
  generalize hws : splitN 32 T = ws
  have hwl : ws.length <= 701 := by rw [<- hws]; have := splitN_len 32 T; omega
  have hwp : 0 < ws.length := by rw [<- hws]; exact List.length_pos_iff.mpr (splitN_ne 32 T)
  have hw1 : ∀ w ∈ ws, w.length <= 700 := fun w hw => by rw [<- hws] at hw; have := split_le 32 T w hw; omega
  have hwsum : (ws.map List.length).sum <= 700 := by rw [<- hws]; have := split_sum 32 T; omega
  generalize hs1 : st ++ [Cell.lst (ws.map W.str)] = s1
  have hwc : s1[st.length]? = some (.lst (ws.map W.str)) := by rw [<- hs1]; exact get_new'
  have hln : bLen [.loc st.length] s1 = .ok (.int (ws.length : Nat)) s1 := by have := o_lenL (lstOf_l hwc); rw [List.length_map] at this; exact this
  have j : ∀ {i : Nat} {d : Int}, (∀ x : List Cell, wIx (.loc q) (.int (i : Nat)) (st ++ x) = .ok (.int d) (st ++ x)) -> wIx (.loc q) (.int (i : Nat)) s1 = .ok (.int d) s1 := fun h => by rw [<- hs1]; exact h _
  obtain ⟨sm, hsm, esm⟩ := mod_nat (q := d5 + 64 * d6) (n := ws.length) hwp
  have pW : (0 : Int) < (ws.length : Int) := by omega
  apply sat_seq
  · exact k_set (k_2 (k_2 (k_2 (k_var rfl) k_C (j i5)) (k_2 k_C (k_2 (k_var rfl) k_C (j i6)) (o_mulI (c64 _))) o_addI) (k_call (k_cons (k_var rfl) k_nil) hln) (o_II pW))
  rw [esm]
  have fin : ∀ {P : RS -> Prop} {w : W} {s : List Cell} {U : List Nat}, w = .str U -> (∃ x, s = st ++ x) -> U.length <= 2850 -> (∃ w' st', RS.rt w s = .rt w' st' /\ (∃ x, st' = st ++ x) /\ undWs st.length [w'] = true /\ ∃ T' : List Nat, w' = .str T' /\ T'.length <= 2850) := fun hw hs hu => ⟨_, _, rfl, hs, by rw [hw]; rfl, _, hw, hu⟩
  have hx1 : ∃ x, s1 = st ++ x := ⟨_, hs1.symm⟩
  have cl : ∀ (lo hi : Option Int), (cutW T lo hi).length <= 700 := fun lo hi => Nat.le_trans (cut_len T lo hi) hT
  have ad : ∀ {x y : List Nat} {s : List Cell}, x.length + y.length <= 3000 -> wAdd (.str x) (.str y) s = .ok (.str (x ++ y)) s := fun h => o_addS (by show _ <= 1000000; omega)
  have sl : ∀ {lo hi : Option Int} {s : List Cell}, wSl (.str T) lo hi s = .ok (.str (cutW T lo hi)) s := fun {lo hi s} => o_slS hL
  have tst : ∀ {ρ : EnvW} {k : Nat} {b : Bool}, ρ[4]? = some (some (.int (wy : Nat))) -> decide (wy = k) = b -> asB (e2 wEq (eVar 4) (eC (.int (k : Nat)))) ρ s1 = .ok b s1 := fun {ρ k b} hρ hb => k_asB (k_2 (k_var hρ) k_C (o_eqI (by rw [<- hb, Bool.eq_iff_iff, beq_iff_eq, decide_eq_true_iff]; omega)))
  by_cases h1 : wy = 1
  · apply sat_seq_t
    · exact tst (k := 1) rfl (decide_eq_true h1)
    have c1 := cl none (some (a : Int)); have c2 := cl (some (a : Int)) none
    apply sat_seq_ret
    · exact k_2 (k_2 (k_sl (k_var rfl) k_oN (k_oS (k_var rfl)) sl) (k_var rfl) (ad (by simp; omega))) (k_sl (k_var rfl) (k_oS (k_var rfl)) k_oN sl) (ad (by simp; omega))
    · exact fin (P := fun _ => True) rfl hx1 (by simp; omega)
  apply sat_seq_f
  · exact tst (k := 1) rfl (decide_eq_false h1)
  apply sat_next
  by_cases h2 : wy = 2
  · apply sat_seq_t
    · exact tst (k := 2) rfl (decide_eq_true h2)
    have c1 := cl none (some (a : Int)); have c2 := cl (some ((a : Int) + 1)) none
    apply sat_seq_ret
    · exact k_2 (k_sl (k_var rfl) k_oN (k_oS (k_var rfl)) sl) (k_sl (k_var rfl) (k_oS (k_2 (k_var rfl) k_C o_addI)) k_oN sl) (ad (by omega))
    · exact fin (P := fun _ => True) rfl hx1 (by simp; omega)
  apply sat_seq_f
  · exact tst (k := 2) rfl (decide_eq_false h2)
  apply sat_next
  by_cases h3 : wy = 3
  · apply sat_seq_t
    · exact tst (k := 3) rfl (decide_eq_true h3)
    have c1 := cl none (some (a : Int)); have c2 := cl (some ((a : Int) + 1)) none
    apply sat_seq_ret
    · exact k_2 (k_2 (k_sl (k_var rfl) k_oN (k_oS (k_var rfl)) sl) (k_var rfl) (ad (by simp; omega))) (k_sl (k_var rfl) (k_oS (k_2 (k_var rfl) k_C o_addI)) k_oN sl) (ad (by simp; omega))
    · exact fin (P := fun _ => True) rfl hx1 (by simp; omega)
  apply sat_seq_f
  · exact tst (k := 3) rfl (decide_eq_false h3)
  apply sat_next
  by_cases h4 : wy = 4
  · obtain ⟨jj, hjj, ejj⟩ := mod_nat (q := (a : Int)) (n := ws.length) hwp
    obtain ⟨w1, hw1'⟩ : ∃ w1, ws[sm]? = some w1 := ⟨_, List.getElem?_eq_getElem hsm⟩
    obtain ⟨w2, hw2'⟩ : ∃ w2, ws[jj]? = some w2 := ⟨_, List.getElem?_eq_getElem hjj⟩
    have x1 : wIx (.loc st.length) (.int (sm : Nat)) s1 = .ok (.str w1) s1 := o_ixL (lstOf_l hwc) (at_nat (by rw [List.getElem?_map, hw1']; rfl))
    have x2 : wIx (.loc st.length) (.int (jj : Nat)) s1 = .ok (.str w2) s1 := o_ixL (lstOf_l hwc) (at_nat (by rw [List.getElem?_map, hw2']; rfl))
    have ixN : ∀ {n q : Nat}, q < n -> ixN n (q : Int) = some q := fun {n q} h => by
      unfold L2.ixN
      rw [if_pos (by omega), if_pos (by omega)]; simp
    have p1 : wSetL (.loc st.length) (.int (sm : Nat)) (.str w2) s1 = some (s1.set st.length (.lst ((ws.set sm w2).map W.str))) := by
      have := o_putL (v := .str w2) hwc (ixN (by rw [List.length_map]; exact hsm))
      rw [this, List.map_set]
    generalize hs2 : s1.set st.length (.lst ((ws.set sm w2).map W.str)) = s2 at p1
    have lt1 : st.length < s1.length := (List.getElem?_eq_some_iff.mp hwc).1
    have hc2 : s2[st.length]? = some (.lst ((ws.set sm w2).map W.str)) := by rw [<- hs2, List.getElem?_set_self lt1]
    have hl2 : bLen [.loc st.length] s2 = .ok (.int (ws.length : Nat)) s2 := by have := o_lenL (lstOf_l hc2); rw [List.length_map, List.length_set] at this; exact this
    have p2 : wSetL (.loc st.length) (.int (jj : Nat)) (.str w1) s2 = some (s2.set st.length (.lst (((ws.set sm w2).set jj w1).map W.str))) := by
      have := o_putL (v := .str w1) hc2 (ixN (by rw [List.length_map, List.length_set]; exact hjj))
      rw [this, List.map_set (f := W.str) (l := ws.set sm w2)]
    generalize hs3 : s2.set st.length (.lst (((ws.set sm w2).set jj w1).map W.str)) = s3 at p2
    have hc3 : s3[st.length]? = some (.lst (((ws.set sm w2).set jj w1).map W.str)) := by rw [<- hs3, List.getElem?_set_self (by rw [<- hs2, List.length_set]; exact lt1)]
    have l1 := hw1 w1 (List.mem_of_getElem? hw1')
    have l2 := hw1 w2 (List.mem_of_getElem? hw2')
    have sum1 := sum_set ws sm w2
    have sum2 := sum_set (ws.set sm w2) jj w1
    have hj := o_join (sep := [32]) (lstOf_l hc3) (by simp only [List.length_set, List.length_cons, List.length_nil]; show _ <= 1000000; omega)
    have hjl := joinN_len [32] ((ws.set sm w2).set jj w1)
    simp only [List.length_set, List.length_cons, List.length_nil] at hjl
    apply sat_seq_t
    · exact tst (k := 4) rfl (decide_eq_true h4)
    apply sat_assoc
    apply sat_seq
    · exact k_set (k_2 (k_var rfl) (k_var rfl) x1)
    apply sat_assoc
    apply sat_seq
    · exact k_put (k_2 (k_var rfl) (k_2 (k_var rfl) (k_call (k_cons (k_var rfl) k_nil) hln) (o_II pW)) (by rw [ejj]; exact x2)) (k_var rfl) (k_var rfl) p1
    apply sat_assoc
    apply sat_seq
    · exact k_put (k_var rfl) (k_var rfl) (k_2 (k_var rfl) (k_call (k_cons (k_var rfl) k_nil) hl2) (o_II pW)) (by rw [ejj]; exact p2)
    apply sat_seq_ret
    · exact k_ms k_C rfl (k_cons (k_var rfl) k_nil) hj
    · refine fin (P := fun _ => True) rfl ⟨[.lst (((ws.set sm w2).set jj w1).map W.str)], ?_⟩ (by omega)
      rw [<- hs3, <- hs2, <- hs1, List.set_set, cell_set0]; rfl
  apply sat_seq_f
  · exact tst (k := 4) rfl (decide_eq_false h4)
  apply sat_next
  by_cases h5 : wy = 5
  · obtain ⟨cl', el'⟩ := some_ix (l := LL) (by decide) (by decide) d3 s1
    have el' : wIx (.str LL) (.int (d3 % 52)) s1 = .ok (.str [cl']) s1 := el'
    apply sat_seq_t
    · exact tst (k := 5) rfl (decide_eq_true h5)
    have c1 := cl none (some (a : Int)); have c2 := cl (some (a : Int)) none
    apply sat_seq_ret
    · exact k_2 (k_2 (k_sl (k_var rfl) k_oN (k_oS (k_var rfl)) sl) (k_2 (k_def k_nil (letters_ok s1) rfl) (k_2 (k_2 (k_var rfl) k_C (j i3)) k_C (o_II (by decide))) el') (ad (by simp; omega))) (k_sl (k_var rfl) (k_oS (k_var rfl)) k_oN sl) (ad (by simp; omega))
    · exact fin (P := fun _ => True) rfl hx1 (by simp; omega)
  apply sat_seq_f
  · exact tst (k := 5) rfl (decide_eq_false h5)
  apply sat_next
  by_cases h6 : wy = 6
  · have two : ∀ (z : Int) (s : List Cell), ∃ u : List Nat, u.length <= 1 /\ wIx (.loc s.length) (.int (z % 2)) (s ++ [Cell.lst [.str [], .str [32]]]) = .ok (.str u) (s ++ [Cell.lst [.str [], .str [32]]]) := fun z s => by
      have : z % 2 = 0 \/ z % 2 = 1 := by omega
      rcases this with h | h <;> rw [h]
      · exact ⟨[], by simp, o_ixL (lstOf_l get_new') rfl⟩
      · exact ⟨[32], by simp, o_ixL (lstOf_l get_new') rfl⟩
    obtain ⟨u, hu, eu⟩ := two d3 s1
    generalize hs2 : s1 ++ [Cell.lst [.str [], .str [32]]] = s2 at eu
    obtain ⟨v, hv, ev⟩ := two d4 s2
    generalize hs3 : s2 ++ [Cell.lst [.str [], .str [32]]] = s3 at ev
    have j3 : wIx (.loc q) (.int (3 : Nat)) s2 = .ok (.int d3) s2 := by rw [<- hs2, <- hs1, List.append_assoc]; exact i3 _
    have j4 : wIx (.loc q) (.int (4 : Nat)) s3 = .ok (.int d4) s3 := by rw [<- hs3, <- hs2, <- hs1, List.append_assoc, List.append_assoc]; exact i4 _
    have lk : ∀ (s : List Cell) (ρ : EnvW), eLst (aCons (eC (.str [])) (aCons (eC (.str [32])) aNil)) ρ s = .ok (.loc s.length) (s ++ [.lst [.str [], .str [32]]]) := fun s ρ => k_lst (k_cons k_C (k_cons k_C k_nil)) (Nat.le_of_ble_eq_true rfl)
    apply sat_seq_t
    · exact tst (k := 6) rfl (decide_eq_true h6)
    apply sat_seq_ret
    · exact k_2 (k_2 (k_2 (by rw [lk, hs2]) (k_2 (k_2 (k_var rfl) k_C j3) k_C (o_II (by decide))) eu) (k_var rfl) (ad (by omega))) (k_2 (by rw [lk, hs3]) (k_2 (k_2 (k_var rfl) k_C j4) k_C (o_II (by decide))) ev) (ad (by simp; omega))
    · refine fin (P := fun _ => True) rfl ⟨_, by rw [<- hs3, <- hs2, <- hs1, List.append_assoc, List.append_assoc]⟩ (by simp; omega)
  apply sat_seq_f
  · exact tst (k := 6) rfl (decide_eq_false h6)
  apply sat_next
  by_cases h7 : wy = 7
  · let od : List (List Nat) := [[], [45], [32, 45], [45, 32], [45, 45], [48, 32, 48], [49], [52], [48, 48], [45, 48], [48, 32, 45], [65], [48, 32, 32, 49], [51], [48, 32, 48, 32, 51, 32], [32]]
    obtain ⟨r, hr, er⟩ := mod_nat (q := d3) (n := 16) (by omega)
    have er : d3 % 16 = (r : Int) := er
    obtain ⟨u, hu⟩ : ∃ u, od[r]? = some u := ⟨_, List.getElem?_eq_getElem (by show r < 16; omega)⟩
    have hul : u.length <= 6 := by
      have : ∀ x ∈ od, x.length <= 6 := by decide
      exact this u (List.mem_of_getElem? hu)
    have hc : (s1 ++ [Cell.lst (od.map W.str)])[s1.length]? = some (.lst (od.map W.str)) := get_new'
    have eu : wIx (.loc s1.length) (.int (r : Nat)) (s1 ++ [Cell.lst (od.map W.str)]) = .ok (.str u) (s1 ++ [Cell.lst (od.map W.str)]) := o_ixL (lstOf_l hc) (at_nat (by rw [List.getElem?_map, hu]; rfl))
    have j3 : wIx (.loc q) (.int (3 : Nat)) (s1 ++ [Cell.lst (od.map W.str)]) = .ok (.int d3) (s1 ++ [Cell.lst (od.map W.str)]) := by rw [<- hs1, List.append_assoc]; exact i3 _
    apply sat_seq_t
    · exact tst (k := 7) rfl (decide_eq_true h7)
    apply sat_assoc
    apply sat_seq
    · exact k_set (k_lst k_strs (Nat.le_of_ble_eq_true rfl))
    apply sat_seq_ret
    · exact k_2 (k_var rfl) (k_2 (k_2 (k_var rfl) k_C j3) k_C (o_II (by decide))) (by rw [er]; exact eu)
    · refine fin (P := fun _ => True) rfl ⟨_, by rw [<- hs1, List.append_assoc]⟩ (by omega)
  apply sat_seq_f
  · exact tst (k := 7) rfl (decide_eq_false h7)
  apply sat_next
  apply sat_ret
  · exact k_var rfl
  · exact fin (P := fun _ => True) rfl hx1 (by omega)
end
end P
set_option Elab.async false
set_option linter.all false
set_option maxRecDepth 100000
set_option maxHeartbeats 4000000
namespace P
open PySem L2
theorem rep_ok {x : List Nat} {n : Nat} {fs : FA} {ρ : EnvW} {st st1 : List Cell} (hx : x.length <= 2) (hn : n <= 200) (h : fs ρ st = .ok [.int (n : Nat)] st1) :
    ∃ U y, U.length <= n * x.length /\ eMS mJoin (eC (.str [])) (aCons (eComp [none] (itRange1 fs) (gNm 0) fYes (eC (.str x))) aNil) ρ st = .ok (.str U) (st1 ++ [y]) := by
  have hi := i_range1 h (by omega)
  rw [Int.toNat_natCast] at hi
  have hcm := k_compY (cap := [none]) (f := gNm 0) (el := eC (.str x)) (ρ := ρ) (st := st) (fun _ => .str x) hi (by rw [rangeW_len]; show _ <= 1000000; omega) trivial fun w hw => ⟨_, rfl, k_C⟩
  have em : ((rangeW 0 n).map fun _ => W.str x) = ((List.range n).map fun _ => x).map W.str := by
    unfold rangeW; rw [List.map_map, List.map_map]; rfl
  rw [em] at hcm
  have hsum : ∀ k : Nat, (((List.range k).map fun _ => x).map List.length).sum = k * x.length := fun k => by
    induction k with
    | zero => simp
    | succ k ih => rw [List.range_succ, List.map_append, List.map_append, List.sum_append, ih, Nat.succ_mul]; simp
  have hb : n * x.length <= 200 * 2 := Nat.mul_le_mul hn hx
  have hj := o_join (sep := []) (lstOf_l (get_new' (s := st1) (c := Cell.lst (((List.range n).map fun _ => x).map W.str)))) (by rw [hsum]; show _ <= 1000000; simp; omega)
  refine ⟨_, _, ?_, k_ms k_C rfl (k_cons hcm k_nil) hj⟩
  have := joinN_len [] ((List.range n).map fun _ => x)
  rw [hsum] at this
  simp at this
  omega
theorem law_ok : LawOk f_q27 := by
  intro ns hn
  suffices hh : Sat (rtP fun w st' => w = .bl true) (g_q27 ([W.loc 0].map some ++ List.replicate (7 - 1) none) [.ro (ns.map W.int)]) by
    obtain ⟨w, st', e, rfl⟩ := hh
    exact ⟨_, runF_rt e⟩
  have h0 : ([Cell.ro (ns.map W.int)] : List Cell)[0]? = some (.ro (ns.map W.int)) := rfl
  generalize hs0 : ([Cell.ro (ns.map W.int)] : List Cell) = s0 at h0
  obtain ⟨c0, e0⟩ := cell_ok h0 0
  obtain ⟨pool, hpl, hpp, e1⟩ := pool_ok c0 100003 4 (by omega) s0
  have e1 : f_q15 [.int c0, .int 4, .int 100003] s0 = _ := e1
  apply sat_seq
  · exact k_set (k_def (k_cons (k_def (k_cons (k_var rfl) (k_cons k_C k_nil)) e0 rfl) (k_cons k_C (k_cons k_C k_nil))) e1 rfl)
  obtain ⟨c1, e2'⟩ := cell_ok h0 1
  obtain ⟨c2, e3⟩ := cell_ok h0 2
  obtain ⟨m, hm, e4⟩ := lsize_ok c2 200017 100 (by omega) s0
  have e4 : f_q13 [.int c2, .int 200017, .int 100] s0 = _ := e4
  obtain ⟨ds, hdl, hdp, e5⟩ := draws_ok c1 300007 m (by omega) s0
  apply sat_seq
  · exact k_set (k_def (k_cons (k_def (k_cons (k_var rfl) (k_cons k_C k_nil)) e2' rfl) (k_cons (k_def (k_cons (k_def (k_cons (k_var rfl) (k_cons k_C k_nil)) e3 rfl) (k_cons k_C (k_cons k_C k_nil))) e4 rfl) (k_cons k_C k_nil))) e5 rfl)
  generalize hs1 : s0 ++ [Cell.lst (ds.map W.int)] = s1
  have hd1 : s1[s0.length]? = some (.lst (ds.map W.int)) := by rw [<- hs1]; exact get_new'
  have h1 : s1[0]? = some (.ro (ns.map W.int)) := by rw [<- hs1]; exact cell_old h0
  obtain ⟨c3, e6⟩ := cell_ok h1 3
  obtain ⟨ws, hwl, hwp, e7⟩ := draws_ok c3 400009 10 (by omega) s1
  have e7 : f_q12 [.int c3, .int 10, .int 400009] s1 = _ := e7
  apply sat_seq
  · exact k_set (k_def (k_cons (k_def (k_cons (k_var rfl) (k_cons k_C k_nil)) e6 rfl) (k_cons k_C (k_cons k_C k_nil))) e7 rfl)
  generalize hs2 : s1 ++ [Cell.lst (ws.map W.int)] = s2
  have hd2 : s2[s0.length]? = some (.lst (ds.map W.int)) := by rw [<- hs2]; exact cell_old hd1
  have hw2 : s2[s1.length]? = some (.lst (ws.map W.int)) := by rw [<- hs2]; exact get_new'
  obtain ⟨ps, hps, hpsl, e8⟩ := wood_ok (pool := pool) hd2 hdp (by omega)
  obtain ⟨T0, hT0, e9⟩ := text_ok hps hpsl s2
  obtain ⟨T1, hT1, e10⟩ := spoilt_ok hT0 hw2 hwl
  apply sat_seq
  · exact k_set (k_def (k_cons (k_def (k_cons (k_def (k_cons (k_var rfl) (k_cons (k_var rfl) (k_cons k_C k_nil))) e8 rfl) k_nil) e9 rfl) (k_cons (k_var rfl) k_nil)) e10 rfl)
  have hix : ∀ (i : Nat), i < 10 -> ∃ d, ∀ x : List Cell, wIx (.loc s1.length) (.int (i : Nat)) (s2 ++ x) = .ok (.int d) (s2 ++ x) := fun i hi => by
    obtain ⟨d, hd⟩ : ∃ d, ws[i]? = some d := ⟨_, List.getElem?_eq_getElem (by omega)⟩
    exact ⟨d, fun x => o_ixL (lstOf_l (cell_old hw2)) (at_nat (by rw [List.getElem?_map, hd]; rfl))⟩
  obtain ⟨d7, i7⟩ := hix 7 (by omega)
  obtain ⟨d8, i8⟩ := hix 8 (by omega)
  obtain ⟨r7, hr7, er7⟩ := mod_nat (q := d7) (n := 5) (by omega)
  have er7 : d7 % 5 = (r7 : Int) := er7
  obtain ⟨r8, hr8, er8⟩ := mod_nat (q := d8) (n := 4) (by omega)
  have er8 : d8 % 4 = (r8 : Int) := er8
  clear e0 e1 e2' e3 e4 e5 e6 e7 e8 e9 e10
  have t7 : ∀ {x : List Cell} {ρ : EnvW} {k : Nat} {b : Bool}, ρ[3]? = some (some (.loc s1.length)) -> decide (r7 = k) = b -> asB (e2 wEq (e2 wMod (e2 wIx (eVar 3) (eC (.int 7))) (eC (.int 5))) (eC (.int (k : Nat)))) ρ (s2 ++ x) = .ok b (s2 ++ x) := fun {x ρ k b} hρ hb =>
    k_asB (k_2 (k_2 (k_2 (k_var hρ) k_C (i7 x)) k_C (o_II (by decide))) k_C (o_eqI (by rw [<- hb, Bool.eq_iff_iff, beq_iff_eq, decide_eq_true_iff, er7]; omega)))
  have n8 : ∀ {x : List Cell} {ρ : EnvW}, ρ[3]? = some (some (.loc s1.length)) -> e2 wAdd (eC (.int 98)) (e2 wMod (e2 wIx (eVar 3) (eC (.int 8))) (eC (.int 4))) ρ (s2 ++ x) = .ok (.int ((98 + r8 : Nat) : Int)) (s2 ++ x) := fun {x ρ} hρ => by
    rw [show ((98 + r8 : Nat) : Int) = 98 + d8 % 4 by rw [er8]; omega]
    exact k_2 k_C (k_2 (k_2 (k_var hρ) k_C (i8 x)) k_C (o_II (by decide))) o_addI
  refine sat_cut (fun ρ s => ∃ T : List Nat, T.length <= 2850 /\ ρ = [some (.loc 0), some (.str pool), some (.loc s0.length), some (.loc s1.length), some (.str T), none, none] /\ ∃ x, s = s2 ++ x) ?_ ?_
  · rw [show s2 = s2 ++ [] by simp]
    by_cases h : r7 = 1
    · obtain ⟨U, y, hU, eU⟩ := rep_ok (x := [32, 49]) (n := 98 + r8) (fs := aCons (e2 wAdd (eC (.int 98)) (e2 wMod (e2 wIx (eVar 3) (eC (.int 8))) (eC (.int 4)))) aNil) (ρ := [some (.loc 0), some (.str pool), some (.loc s0.length), some (.loc s1.length), some (.str T1), none, none]) (st := s2 ++ []) (st1 := s2 ++ []) (by simp) (by omega) (k_cons (n8 rfl) k_nil)
      apply sat_t
      · exact t7 (k := 1) rfl (decide_eq_true h)
      apply sat_eq
      · exact k_set (k_2 k_C eU (o_addS (by simp only [List.length_cons, List.length_nil] at hU; show 1 + _ <= 1000000; omega)))
      · exact ⟨_, _, rfl, _, by simp only [List.length_cons, List.length_nil, List.length_append] at hU ⊢; omega, rfl, _, by rw [List.append_assoc]⟩
    · apply sat_f
      · exact t7 (k := 1) rfl (decide_eq_false h)
      apply sat_eq
      · exact k_next
      · exact ⟨_, _, rfl, T1, hT1, rfl, [], by simp⟩
  rintro ρ s ⟨T2, hT2, rfl, x2, rfl⟩
  refine sat_cut (fun ρ s => ∃ (T : List Nat) (o5 : Option W), T.length <= 3000 /\ ρ = [some (.loc 0), some (.str pool), some (.loc s0.length), some (.loc s1.length), some (.str T), o5, none]) ?_ ?_
  · by_cases h : r7 = 2
    · obtain ⟨y, hy⟩ := blanks_ok (T := T2) (by omega) (ρ := [some (.loc 0), some (.str pool), some (.loc s0.length), some (.loc s1.length), some (.str T2), none, none]) (i := 4) rfl (s2 ++ x2)
      rw [List.append_assoc] at hy
      have hmn : ∀ s : List Cell, bMin [.int (T2.count 32 : Nat), .int 98] s = .ok (.int ((min (T2.count 32) 98 : Nat) : Int)) s := fun s => by
        show R.ok (W.int (if (98 : Int) < ((T2.count 32 : Nat) : Int) then 98 else ((T2.count 32 : Nat) : Int))) s = _
        congr 2
        split <;> omega
      have es : ((98 + r8 - min (T2.count 32) 98 : Nat) : Int) = ((98 + r8 : Nat) : Int) - ((min (T2.count 32) 98 : Nat) : Int) := by omega
      obtain ⟨U, y2, hU, eU⟩ := rep_ok (x := [32]) (n := 98 + r8 - min (T2.count 32) 98) (fs := aCons (e2 wSub (e2 wAdd (eC (.int 98)) (e2 wMod (e2 wIx (eVar 3) (eC (.int 8))) (eC (.int 4)))) (eCall bMin (aCons (eVar 5) (aCons (eC (.int 98)) aNil)))) aNil) (ρ := [some (.loc 0), some (.str pool), some (.loc s0.length), some (.loc s1.length), some (.str T2), some (.int (T2.count 32 : Nat)), none]) (st := s2 ++ (x2 ++ [y])) (st1 := s2 ++ (x2 ++ [y])) (by simp) (by omega) (by
        rw [es]
        exact k_cons (k_2 (n8 rfl) (k_call (k_cons (k_var rfl) (k_cons k_C k_nil)) (hmn _)) (o_II trivial)) k_nil)
      have hU' : U.length <= 101 := by simp only [List.length_cons, List.length_nil] at hU; omega
      apply sat_t
      · exact t7 (k := 2) rfl (decide_eq_true h)
      apply sat_seq
      · exact k_set hy
      apply sat_eq
      · exact k_set (k_2 (k_var rfl) eU (o_addS (by show _ <= 1000000; omega)))
      · exact ⟨_, _, rfl, _, _, by rw [List.length_append]; omega, rfl⟩
    · apply sat_f
      · exact t7 (k := 2) rfl (decide_eq_false h)
      apply sat_eq
      · exact k_next
      · exact ⟨_, _, rfl, T2, _, by omega, rfl⟩
  rintro ρ s ⟨T, o5, hT, rfl⟩
  apply sat_seq
  · exact k_set (k_def (k_cons (k_var rfl) k_nil) (due_ok hT s) rfl)
  have e1 := law_read_ok hT s
  have e2' := sm_due hT (fun h => by rw [split_count]; omega) s
  apply sat_ret
  · exact k_and_t (k_def (k_cons (k_def (k_cons (k_var rfl) k_nil) e1 rfl) (k_cons (k_var rfl) k_nil)) e2' rfl) (k_def (k_cons (k_def (k_cons (k_var rfl) k_nil) e1 rfl) (k_cons (k_var rfl) k_nil)) e2' rfl)
  · exact ⟨_, _, rfl, rfl⟩
end P
set_option Elab.async false
set_option linter.all false
set_option maxRecDepth 100000
set_option maxHeartbeats 4000000
namespace P
open PySem L2
theorem all_mk {l : PySem.W.OpenLaw} {w : World} {K : PySem.W.Frag} {h : Heap} {mg : Str -> Option Value} {fa : Addr} (X : K.In h) (G : h.Ns mainGlobals mg) (hfa : mg "law" = some (.ref fa))
    {ad_q0 ad_q1 ad_q2 ad_q3 ad_q4 ad_q5 ad_q6 ad_q7 ad_q8 ad_q9 ad_q10 ad_q11 ad_q12 ad_q13 ad_q14 ad_q15 ad_q16 ad_q17 ad_q18 ad_q19 ad_q20 ad_q21 ad_q22 ad_q23 ad_q24 ad_q25 ad_q26 ad_q27 : Addr} {od_q0 an_q0 od_q1 an_q1 od_q2 an_q2 od_q3 an_q3 od_q4 an_q4 od_q5 an_q5 od_q6 an_q6 od_q7 an_q7 od_q8 an_q8 od_q9 an_q9 od_q10 an_q10 od_q11 an_q11 od_q12 an_q12 od_q13 an_q13 od_q14 an_q14 od_q15 an_q15 od_q16 an_q16 od_q17 an_q17 od_q18 an_q18 od_q19 an_q19 od_q20 an_q20 od_q21 an_q21 od_q22 an_q22 od_q23 an_q23 od_q24 an_q24 od_q25 an_q25 od_q26 an_q26 od_q27 an_q27 : Option Addr} {sl_q0 sl_q1 sl_q2 sl_q3 sl_q4 sl_q5 sl_q6 sl_q7 sl_q8 sl_q9 sl_q10 sl_q11 sl_q12 sl_q13 sl_q14 sl_q15 sl_q16 sl_q17 sl_q18 sl_q19 sl_q20 sl_q21 sl_q22 sl_q23 sl_q24 sl_q25 sl_q26 sl_q27 : Array (Option Value)} {oc_q0 kV_q0 dc_q0 pm_q0 cd_q0 ct_q0 oc_q1 kV_q1 dc_q1 pm_q1 cd_q1 ct_q1 oc_q2 kV_q2 dc_q2 pm_q2 cd_q2 ct_q2 oc_q3 kV_q3 dc_q3 pm_q3 cd_q3 ct_q3 oc_q4 kV_q4 dc_q4 pm_q4 cd_q4 ct_q4 oc_q5 kV_q5 dc_q5 pm_q5 cd_q5 ct_q5 oc_q6 kV_q6 dc_q6 pm_q6 cd_q6 ct_q6 oc_q7 kV_q7 dc_q7 pm_q7 cd_q7 ct_q7 oc_q8 kV_q8 dc_q8 pm_q8 cd_q8 ct_q8 oc_q9 kV_q9 dc_q9 pm_q9 cd_q9 ct_q9 oc_q10 kV_q10 dc_q10 pm_q10 cd_q10 ct_q10 oc_q11 kV_q11 dc_q11 pm_q11 cd_q11 ct_q11 oc_q12 kV_q12 dc_q12 pm_q12 cd_q12 ct_q12 oc_q13 kV_q13 dc_q13 pm_q13 cd_q13 ct_q13 oc_q14 kV_q14 dc_q14 pm_q14 cd_q14 ct_q14 oc_q15 kV_q15 dc_q15 pm_q15 cd_q15 ct_q15 oc_q16 kV_q16 dc_q16 pm_q16 cd_q16 ct_q16 oc_q17 kV_q17 dc_q17 pm_q17 cd_q17 ct_q17 oc_q18 kV_q18 dc_q18 pm_q18 cd_q18 ct_q18 oc_q19 kV_q19 dc_q19 pm_q19 cd_q19 ct_q19 oc_q20 kV_q20 dc_q20 pm_q20 cd_q20 ct_q20 oc_q21 kV_q21 dc_q21 pm_q21 cd_q21 ct_q21 oc_q22 kV_q22 dc_q22 pm_q22 cd_q22 ct_q22 oc_q23 kV_q23 dc_q23 pm_q23 cd_q23 ct_q23 oc_q24 kV_q24 dc_q24 pm_q24 cd_q24 ct_q24 oc_q25 kV_q25 dc_q25 pm_q25 cd_q25 ct_q25 oc_q26 kV_q26 dc_q26 pm_q26 cd_q26 ct_q26 oc_q27 kV_q27 dc_q27 pm_q27 cd_q27 ct_q27 : Value} {A_TrunkError : Addr} {A_NoTree : Addr} {A_NoStatement : Addr} {A_NoPlace : Addr} {A_NoNumber : Addr} {A_TooGreat : Addr} {A_NoName : Addr} {A_NoLine : Addr} {A_NothingDone : Addr} {A_NothingHeld : Addr} {q_ALL_LETTERS : Tok} {q_MOST_PLACES : Tok} {q_EMPTY : Tok} {A_FIGURES : Addr} {od_FIGURES : Option Addr} {sl_FIGURES : Array (Option Value)} {nn_FIGURES : Nat} {q_FIGURES_0 q_FIGURES_1 q_FIGURES_2 q_FIGURES_3 : Tok}
    (a_q0 : PySem.W.nsIn K mainGlobals "is_letter" = some (some (.ref ad_q0)))
    (l_q0 : K.lookup ad_q0 = some ⟨oc_q0, od_q0, .func (PySem.W.fnOf "is_letter" "is_letter" (defArgs s_q0) (defBody s_q0) (defScope s_q0) .none kV_q0 dc_q0 pm_q0 an_q0 cd_q0 ct_q0), sl_q0⟩)
    (cd_q0_ok : PySem.W.codeIn K cd_q0 "is_letter" = true)
    (k_q0 : PySem.W.keepIn K (.ref ad_q0) = true)
    (a_q1 : PySem.W.nsIn K mainGlobals "in_order" = some (some (.ref ad_q1)))
    (l_q1 : K.lookup ad_q1 = some ⟨oc_q1, od_q1, .func (PySem.W.fnOf "in_order" "in_order" (defArgs s_q1) (defBody s_q1) (defScope s_q1) .none kV_q1 dc_q1 pm_q1 an_q1 cd_q1 ct_q1), sl_q1⟩)
    (cd_q1_ok : PySem.W.codeIn K cd_q1 "in_order" = true)
    (k_q1 : PySem.W.keepIn K (.ref ad_q1) = true)
    (a_q2 : PySem.W.nsIn K mainGlobals "is_row" = some (some (.ref ad_q2)))
    (l_q2 : K.lookup ad_q2 = some ⟨oc_q2, od_q2, .func (PySem.W.fnOf "is_row" "is_row" (defArgs s_q2) (defBody s_q2) (defScope s_q2) .none kV_q2 dc_q2 pm_q2 an_q2 cd_q2 ct_q2), sl_q2⟩)
    (cd_q2_ok : PySem.W.codeIn K cd_q2 "is_row" = true)
    (k_q2 : PySem.W.keepIn K (.ref ad_q2) = true)
    (a_q3 : PySem.W.nsIn K mainGlobals "has_left" = some (some (.ref ad_q3)))
    (l_q3 : K.lookup ad_q3 = some ⟨oc_q3, od_q3, .func (PySem.W.fnOf "has_left" "has_left" (defArgs s_q3) (defBody s_q3) (defScope s_q3) .none kV_q3 dc_q3 pm_q3 an_q3 cd_q3 ct_q3), sl_q3⟩)
    (cd_q3_ok : PySem.W.codeIn K cd_q3 "has_left" = true)
    (k_q3 : PySem.W.keepIn K (.ref ad_q3) = true)
    (a_q4 : PySem.W.nsIn K mainGlobals "has_right" = some (some (.ref ad_q4)))
    (l_q4 : K.lookup ad_q4 = some ⟨oc_q4, od_q4, .func (PySem.W.fnOf "has_right" "has_right" (defArgs s_q4) (defBody s_q4) (defScope s_q4) .none kV_q4 dc_q4 pm_q4 an_q4 cd_q4 ct_q4), sl_q4⟩)
    (cd_q4_ok : PySem.W.codeIn K cd_q4 "has_right" = true)
    (k_q4 : PySem.W.keepIn K (.ref ad_q4) = true)
    (a_q5 : PySem.W.nsIn K mainGlobals "is_whole" = some (some (.ref ad_q5)))
    (l_q5 : K.lookup ad_q5 = some ⟨oc_q5, od_q5, .func (PySem.W.fnOf "is_whole" "is_whole" (defArgs s_q5) (defBody s_q5) (defScope s_q5) .none kV_q5 dc_q5 pm_q5 an_q5 cd_q5 ct_q5), sl_q5⟩)
    (cd_q5_ok : PySem.W.codeIn K cd_q5 "is_whole" = true)
    (k_q5 : PySem.W.keepIn K (.ref ad_q5) = true)
    (a_q6 : PySem.W.nsIn K mainGlobals "is_place" = some (some (.ref ad_q6)))
    (l_q6 : K.lookup ad_q6 = some ⟨oc_q6, od_q6, .func (PySem.W.fnOf "is_place" "is_place" (defArgs s_q6) (defBody s_q6) (defScope s_q6) .none kV_q6 dc_q6 pm_q6 an_q6 cd_q6 ct_q6), sl_q6⟩)
    (cd_q6_ok : PySem.W.codeIn K cd_q6 "is_place" = true)
    (k_q6 : PySem.W.keepIn K (.ref ad_q6) = true)
    (a_q7 : PySem.W.nsIn K mainGlobals "is_tree" = some (some (.ref ad_q7)))
    (l_q7 : K.lookup ad_q7 = some ⟨oc_q7, od_q7, .func (PySem.W.fnOf "is_tree" "is_tree" (defArgs s_q7) (defBody s_q7) (defScope s_q7) .none kV_q7 dc_q7 pm_q7 an_q7 cd_q7 ct_q7), sl_q7⟩)
    (cd_q7_ok : PySem.W.codeIn K cd_q7 "is_tree" = true)
    (k_q7 : PySem.W.keepIn K (.ref ad_q7) = true)
    (a_q8 : PySem.W.nsIn K mainGlobals "read_place" = some (some (.ref ad_q8)))
    (l_q8 : K.lookup ad_q8 = some ⟨oc_q8, od_q8, .func (PySem.W.fnOf "read_place" "read_place" (defArgs s_q8) (defBody s_q8) (defScope s_q8) .none kV_q8 dc_q8 pm_q8 an_q8 cd_q8 ct_q8), sl_q8⟩)
    (cd_q8_ok : PySem.W.codeIn K cd_q8 "read_place" = true)
    (k_q8 : PySem.W.keepIn K (.ref ad_q8) = true)
    (a_q9 : PySem.W.nsIn K mainGlobals "read_tree" = some (some (.ref ad_q9)))
    (l_q9 : K.lookup ad_q9 = some ⟨oc_q9, od_q9, .func (PySem.W.fnOf "read_tree" "read_tree" (defArgs s_q9) (defBody s_q9) (defScope s_q9) .none kV_q9 dc_q9 pm_q9 an_q9 cd_q9 ct_q9), sl_q9⟩)
    (cd_q9_ok : PySem.W.codeIn K cd_q9 "read_tree" = true)
    (k_q9 : PySem.W.keepIn K (.ref ad_q9) = true)
    (a_q10 : PySem.W.nsIn K mainGlobals "_law_cell" = some (some (.ref ad_q10)))
    (l_q10 : K.lookup ad_q10 = some ⟨oc_q10, od_q10, .func (PySem.W.fnOf "_law_cell" "_law_cell" (defArgs s_q10) (defBody s_q10) (defScope s_q10) .none kV_q10 dc_q10 pm_q10 an_q10 cd_q10 ct_q10), sl_q10⟩)
    (cd_q10_ok : PySem.W.codeIn K cd_q10 "_law_cell" = true)
    (k_q10 : PySem.W.keepIn K (.ref ad_q10) = true)
    (a_q11 : PySem.W.nsIn K mainGlobals "_law_mixed" = some (some (.ref ad_q11)))
    (l_q11 : K.lookup ad_q11 = some ⟨oc_q11, od_q11, .func (PySem.W.fnOf "_law_mixed" "_law_mixed" (defArgs s_q11) (defBody s_q11) (defScope s_q11) .none kV_q11 dc_q11 pm_q11 an_q11 cd_q11 ct_q11), sl_q11⟩)
    (cd_q11_ok : PySem.W.codeIn K cd_q11 "_law_mixed" = true)
    (k_q11 : PySem.W.keepIn K (.ref ad_q11) = true)
    (a_q12 : PySem.W.nsIn K mainGlobals "_law_draws" = some (some (.ref ad_q12)))
    (l_q12 : K.lookup ad_q12 = some ⟨oc_q12, od_q12, .func (PySem.W.fnOf "_law_draws" "_law_draws" (defArgs s_q12) (defBody s_q12) (defScope s_q12) .none kV_q12 dc_q12 pm_q12 an_q12 cd_q12 ct_q12), sl_q12⟩)
    (cd_q12_ok : PySem.W.codeIn K cd_q12 "_law_draws" = true)
    (k_q12 : PySem.W.keepIn K (.ref ad_q12) = true)
    (a_q13 : PySem.W.nsIn K mainGlobals "_law_size" = some (some (.ref ad_q13)))
    (l_q13 : K.lookup ad_q13 = some ⟨oc_q13, od_q13, .func (PySem.W.fnOf "_law_size" "_law_size" (defArgs s_q13) (defBody s_q13) (defScope s_q13) .none kV_q13 dc_q13 pm_q13 an_q13 cd_q13 ct_q13), sl_q13⟩)
    (cd_q13_ok : PySem.W.codeIn K cd_q13 "_law_size" = true)
    (k_q13 : PySem.W.keepIn K (.ref ad_q13) = true)
    (a_q14 : PySem.W.nsIn K mainGlobals "_law_same" = some (some (.ref ad_q14)))
    (l_q14 : K.lookup ad_q14 = some ⟨oc_q14, od_q14, .func (PySem.W.fnOf "_law_same" "_law_same" (defArgs s_q14) (defBody s_q14) (defScope s_q14) .none kV_q14 dc_q14 pm_q14 an_q14 cd_q14 ct_q14), sl_q14⟩)
    (cd_q14_ok : PySem.W.codeIn K cd_q14 "_law_same" = true)
    (k_q14 : PySem.W.keepIn K (.ref ad_q14) = true)
    (a_q15 : PySem.W.nsIn K mainGlobals "_law_pool" = some (some (.ref ad_q15)))
    (l_q15 : K.lookup ad_q15 = some ⟨oc_q15, od_q15, .func (PySem.W.fnOf "_law_pool" "_law_pool" (defArgs s_q15) (defBody s_q15) (defScope s_q15) .none kV_q15 dc_q15 pm_q15 an_q15 cd_q15 ct_q15), sl_q15⟩)
    (cd_q15_ok : PySem.W.codeIn K cd_q15 "_law_pool" = true)
    (k_q15 : PySem.W.keepIn K (.ref ad_q15) = true)
    (a_q16 : PySem.W.nsIn K mainGlobals "_law_marks" = some (some (.ref ad_q16)))
    (l_q16 : K.lookup ad_q16 = some ⟨oc_q16, od_q16, .func (PySem.W.fnOf "_law_marks" "_law_marks" (defArgs s_q16) (defBody s_q16) (defScope s_q16) .none kV_q16 dc_q16 pm_q16 an_q16 cd_q16 ct_q16), sl_q16⟩)
    (cd_q16_ok : PySem.W.codeIn K cd_q16 "_law_marks" = true)
    (k_q16 : PySem.W.keepIn K (.ref ad_q16) = true)
    (a_q17 : PySem.W.nsIn K mainGlobals "_law_wood" = some (some (.ref ad_q17)))
    (l_q17 : K.lookup ad_q17 = some ⟨oc_q17, od_q17, .func (PySem.W.fnOf "_law_wood" "_law_wood" (defArgs s_q17) (defBody s_q17) (defScope s_q17) .none kV_q17 dc_q17 pm_q17 an_q17 cd_q17 ct_q17), sl_q17⟩)
    (cd_q17_ok : PySem.W.codeIn K cd_q17 "_law_wood" = true)
    (k_q17 : PySem.W.keepIn K (.ref ad_q17) = true)
    (a_q18 : PySem.W.nsIn K mainGlobals "_law_letters" = some (some (.ref ad_q18)))
    (l_q18 : K.lookup ad_q18 = some ⟨oc_q18, od_q18, .func (PySem.W.fnOf "_law_letters" "_law_letters" (defArgs s_q18) (defBody s_q18) (defScope s_q18) .none kV_q18 dc_q18 pm_q18 an_q18 cd_q18 ct_q18), sl_q18⟩)
    (cd_q18_ok : PySem.W.codeIn K cd_q18 "_law_letters" = true)
    (k_q18 : PySem.W.keepIn K (.ref ad_q18) = true)
    (a_q19 : PySem.W.nsIn K mainGlobals "_law_signs" = some (some (.ref ad_q19)))
    (l_q19 : K.lookup ad_q19 = some ⟨oc_q19, od_q19, .func (PySem.W.fnOf "_law_signs" "_law_signs" (defArgs s_q19) (defBody s_q19) (defScope s_q19) .none kV_q19 dc_q19 pm_q19 an_q19 cd_q19 ct_q19), sl_q19⟩)
    (cd_q19_ok : PySem.W.codeIn K cd_q19 "_law_signs" = true)
    (k_q19 : PySem.W.keepIn K (.ref ad_q19) = true)
    (a_q20 : PySem.W.nsIn K mainGlobals "_law_kinds" = some (some (.ref ad_q20)))
    (l_q20 : K.lookup ad_q20 = some ⟨oc_q20, od_q20, .func (PySem.W.fnOf "_law_kinds" "_law_kinds" (defArgs s_q20) (defBody s_q20) (defScope s_q20) .none kV_q20 dc_q20 pm_q20 an_q20 cd_q20 ct_q20), sl_q20⟩)
    (cd_q20_ok : PySem.W.codeIn K cd_q20 "_law_kinds" = true)
    (k_q20 : PySem.W.keepIn K (.ref ad_q20) = true)
    (a_q21 : PySem.W.nsIn K mainGlobals "_law_due_refusal" = some (some (.ref ad_q21)))
    (l_q21 : K.lookup ad_q21 = some ⟨oc_q21, od_q21, .func (PySem.W.fnOf "_law_due_refusal" "_law_due_refusal" (defArgs s_q21) (defBody s_q21) (defScope s_q21) .none kV_q21 dc_q21 pm_q21 an_q21 cd_q21 ct_q21), sl_q21⟩)
    (cd_q21_ok : PySem.W.codeIn K cd_q21 "_law_due_refusal" = true)
    (k_q21 : PySem.W.keepIn K (.ref ad_q21) = true)
    (a_q22 : PySem.W.nsIn K mainGlobals "_law_text" = some (some (.ref ad_q22)))
    (l_q22 : K.lookup ad_q22 = some ⟨oc_q22, od_q22, .func (PySem.W.fnOf "_law_text" "_law_text" (defArgs s_q22) (defBody s_q22) (defScope s_q22) .none kV_q22 dc_q22 pm_q22 an_q22 cd_q22 ct_q22), sl_q22⟩)
    (cd_q22_ok : PySem.W.codeIn K cd_q22 "_law_text" = true)
    (k_q22 : PySem.W.keepIn K (.ref ad_q22) = true)
    (a_q23 : PySem.W.nsIn K mainGlobals "_law_read" = some (some (.ref ad_q23)))
    (l_q23 : K.lookup ad_q23 = some ⟨oc_q23, od_q23, .func (PySem.W.fnOf "_law_read" "_law_read" (defArgs s_q23) (defBody s_q23) (defScope s_q23) .none kV_q23 dc_q23 pm_q23 an_q23 cd_q23 ct_q23), sl_q23⟩)
    (cd_q23_ok : PySem.W.codeIn K cd_q23 "_law_read" = true)
    (k_q23 : PySem.W.keepIn K (.ref ad_q23) = true)
    (a_q24 : PySem.W.nsIn K mainGlobals "_law_due_place" = some (some (.ref ad_q24)))
    (l_q24 : K.lookup ad_q24 = some ⟨oc_q24, od_q24, .func (PySem.W.fnOf "_law_due_place" "_law_due_place" (defArgs s_q24) (defBody s_q24) (defScope s_q24) .none kV_q24 dc_q24 pm_q24 an_q24 cd_q24 ct_q24), sl_q24⟩)
    (cd_q24_ok : PySem.W.codeIn K cd_q24 "_law_due_place" = true)
    (k_q24 : PySem.W.keepIn K (.ref ad_q24) = true)
    (a_q25 : PySem.W.nsIn K mainGlobals "_law_due" = some (some (.ref ad_q25)))
    (l_q25 : K.lookup ad_q25 = some ⟨oc_q25, od_q25, .func (PySem.W.fnOf "_law_due" "_law_due" (defArgs s_q25) (defBody s_q25) (defScope s_q25) .none kV_q25 dc_q25 pm_q25 an_q25 cd_q25 ct_q25), sl_q25⟩)
    (cd_q25_ok : PySem.W.codeIn K cd_q25 "_law_due" = true)
    (k_q25 : PySem.W.keepIn K (.ref ad_q25) = true)
    (a_q26 : PySem.W.nsIn K mainGlobals "_law_spoilt" = some (some (.ref ad_q26)))
    (l_q26 : K.lookup ad_q26 = some ⟨oc_q26, od_q26, .func (PySem.W.fnOf "_law_spoilt" "_law_spoilt" (defArgs s_q26) (defBody s_q26) (defScope s_q26) .none kV_q26 dc_q26 pm_q26 an_q26 cd_q26 ct_q26), sl_q26⟩)
    (cd_q26_ok : PySem.W.codeIn K cd_q26 "_law_spoilt" = true)
    (k_q26 : PySem.W.keepIn K (.ref ad_q26) = true)
    (a_q27 : PySem.W.nsIn K mainGlobals "law" = some (some (.ref ad_q27)))
    (l_q27 : K.lookup ad_q27 = some ⟨oc_q27, od_q27, .func (PySem.W.fnOf "law" "law" (defArgs s_q27) (defBody s_q27) (defScope s_q27) .none kV_q27 dc_q27 pm_q27 an_q27 cd_q27 ct_q27), sl_q27⟩)
    (cd_q27_ok : PySem.W.codeIn K cd_q27 "law" = true)
    (k_q27 : PySem.W.keepIn K (.ref ad_q27) = true)
    (a_TrunkError : PySem.W.nsIn K mainGlobals "TrunkError" = some (some (.ref A_TrunkError)))
    (a_NoTree : PySem.W.nsIn K mainGlobals "NoTree" = some (some (.ref A_NoTree)))
    (a_NoStatement : PySem.W.nsIn K mainGlobals "NoStatement" = some (some (.ref A_NoStatement)))
    (a_NoPlace : PySem.W.nsIn K mainGlobals "NoPlace" = some (some (.ref A_NoPlace)))
    (a_NoNumber : PySem.W.nsIn K mainGlobals "NoNumber" = some (some (.ref A_NoNumber)))
    (a_TooGreat : PySem.W.nsIn K mainGlobals "TooGreat" = some (some (.ref A_TooGreat)))
    (a_NoName : PySem.W.nsIn K mainGlobals "NoName" = some (some (.ref A_NoName)))
    (a_NoLine : PySem.W.nsIn K mainGlobals "NoLine" = some (some (.ref A_NoLine)))
    (a_NothingDone : PySem.W.nsIn K mainGlobals "NothingDone" = some (some (.ref A_NothingDone)))
    (a_NothingHeld : PySem.W.nsIn K mainGlobals "NothingHeld" = some (some (.ref A_NothingHeld)))
    (x_TrunkError : PySem.W.excIn K A_TrunkError bmVE newVE = true)
    (g1_TrunkError : PySem.W.findIn K (.ref A_TrunkError) "__getattribute__" = some (some (.builtin "BaseException.__getattribute__")))
    (g2_TrunkError : PySem.W.findIn K (.ref A_TrunkError) "__getattr__" = some none)
    (g3_TrunkError : PySem.W.findIn K (.ref A_TrunkError) "__class__" = some (some (.builtin "object.__class__")))
    (w_TrunkError_NoLine : PySem.W.kitOne K (.ref A_TrunkError) (.ref A_NoLine) = some false)
    (w_TrunkError_NoName : PySem.W.kitOne K (.ref A_TrunkError) (.ref A_NoName) = some false)
    (w_TrunkError_NoNumber : PySem.W.kitOne K (.ref A_TrunkError) (.ref A_NoNumber) = some false)
    (w_TrunkError_NoPlace : PySem.W.kitOne K (.ref A_TrunkError) (.ref A_NoPlace) = some false)
    (w_TrunkError_NoStatement : PySem.W.kitOne K (.ref A_TrunkError) (.ref A_NoStatement) = some false)
    (w_TrunkError_NoTree : PySem.W.kitOne K (.ref A_TrunkError) (.ref A_NoTree) = some false)
    (w_TrunkError_NothingDone : PySem.W.kitOne K (.ref A_TrunkError) (.ref A_NothingDone) = some false)
    (w_TrunkError_NothingHeld : PySem.W.kitOne K (.ref A_TrunkError) (.ref A_NothingHeld) = some false)
    (w_TrunkError_TooGreat : PySem.W.kitOne K (.ref A_TrunkError) (.ref A_TooGreat) = some false)
    (w_TrunkError_VE : PySem.W.kitOne K (.ref A_TrunkError) (.type "ValueError") = some true)
    (x_NoTree : PySem.W.excIn K A_NoTree bmVE newVE = true)
    (g1_NoTree : PySem.W.findIn K (.ref A_NoTree) "__getattribute__" = some (some (.builtin "BaseException.__getattribute__")))
    (g2_NoTree : PySem.W.findIn K (.ref A_NoTree) "__getattr__" = some none)
    (g3_NoTree : PySem.W.findIn K (.ref A_NoTree) "__class__" = some (some (.builtin "object.__class__")))
    (w_NoTree_NoLine : PySem.W.kitOne K (.ref A_NoTree) (.ref A_NoLine) = some false)
    (w_NoTree_NoName : PySem.W.kitOne K (.ref A_NoTree) (.ref A_NoName) = some false)
    (w_NoTree_NoNumber : PySem.W.kitOne K (.ref A_NoTree) (.ref A_NoNumber) = some false)
    (w_NoTree_NoPlace : PySem.W.kitOne K (.ref A_NoTree) (.ref A_NoPlace) = some false)
    (w_NoTree_NoStatement : PySem.W.kitOne K (.ref A_NoTree) (.ref A_NoStatement) = some false)
    (w_NoTree_NoTree : PySem.W.kitOne K (.ref A_NoTree) (.ref A_NoTree) = some true)
    (w_NoTree_NothingDone : PySem.W.kitOne K (.ref A_NoTree) (.ref A_NothingDone) = some false)
    (w_NoTree_NothingHeld : PySem.W.kitOne K (.ref A_NoTree) (.ref A_NothingHeld) = some false)
    (w_NoTree_TooGreat : PySem.W.kitOne K (.ref A_NoTree) (.ref A_TooGreat) = some false)
    (w_NoTree_VE : PySem.W.kitOne K (.ref A_NoTree) (.type "ValueError") = some true)
    (x_TooGreat : PySem.W.excIn K A_TooGreat bmVE newVE = true)
    (g1_TooGreat : PySem.W.findIn K (.ref A_TooGreat) "__getattribute__" = some (some (.builtin "BaseException.__getattribute__")))
    (g2_TooGreat : PySem.W.findIn K (.ref A_TooGreat) "__getattr__" = some none)
    (g3_TooGreat : PySem.W.findIn K (.ref A_TooGreat) "__class__" = some (some (.builtin "object.__class__")))
    (w_TooGreat_NoLine : PySem.W.kitOne K (.ref A_TooGreat) (.ref A_NoLine) = some false)
    (w_TooGreat_NoName : PySem.W.kitOne K (.ref A_TooGreat) (.ref A_NoName) = some false)
    (w_TooGreat_NoNumber : PySem.W.kitOne K (.ref A_TooGreat) (.ref A_NoNumber) = some false)
    (w_TooGreat_NoPlace : PySem.W.kitOne K (.ref A_TooGreat) (.ref A_NoPlace) = some false)
    (w_TooGreat_NoStatement : PySem.W.kitOne K (.ref A_TooGreat) (.ref A_NoStatement) = some false)
    (w_TooGreat_NoTree : PySem.W.kitOne K (.ref A_TooGreat) (.ref A_NoTree) = some false)
    (w_TooGreat_NothingDone : PySem.W.kitOne K (.ref A_TooGreat) (.ref A_NothingDone) = some false)
    (w_TooGreat_NothingHeld : PySem.W.kitOne K (.ref A_TooGreat) (.ref A_NothingHeld) = some false)
    (w_TooGreat_TooGreat : PySem.W.kitOne K (.ref A_TooGreat) (.ref A_TooGreat) = some true)
    (w_TooGreat_VE : PySem.W.kitOne K (.ref A_TooGreat) (.type "ValueError") = some true)
    (u_TrunkError_TrunkError : (mroK K A_TrunkError).contains (.ref A_TrunkError) = true)
    (u_NoTree_TrunkError : (mroK K A_NoTree).contains (.ref A_TrunkError) = true)
    (u_TooGreat_TrunkError : (mroK K A_TooGreat).contains (.ref A_TrunkError) = true)
    (z_ValueError : PySem.W.nsIn K mainGlobals "ValueError" = some none)
    (z_all : PySem.W.nsIn K mainGlobals "all" = some none)
    (z_bool : PySem.W.nsIn K mainGlobals "bool" = some none)
    (z_int : PySem.W.nsIn K mainGlobals "int" = some none)
    (z_isinstance : PySem.W.nsIn K mainGlobals "isinstance" = some none)
    (z_len : PySem.W.nsIn K mainGlobals "len" = some none)
    (z_min : PySem.W.nsIn K mainGlobals "min" = some none)
    (z_range : PySem.W.nsIn K mainGlobals "range" = some none)
    (z_set : PySem.W.nsIn K mainGlobals "set" = some none)
    (z_sorted : PySem.W.nsIn K mainGlobals "sorted" = some none)
    (z_str : PySem.W.nsIn K mainGlobals "str" = some none)
    (z_tuple : PySem.W.nsIn K mainGlobals "tuple" = some none)
    (a_ALL_LETTERS : PySem.W.nsIn K mainGlobals "ALL_LETTERS" = some (some (.str "ABCDEFGHIJKLMNOPQRSTUVWXYZabcdefghijklmnopqrstuvwxyz" q_ALL_LETTERS)))
    (a_MOST_PLACES : PySem.W.nsIn K mainGlobals "MOST_PLACES" = some (some (.int 100 q_MOST_PLACES)))
    (a_EMPTY : PySem.W.nsIn K mainGlobals "EMPTY" = some (some (.str "-" q_EMPTY)))
    (a_FIGURES : PySem.W.nsIn K mainGlobals "FIGURES" = some (some (.ref A_FIGURES)))
    (l_FIGURES : K.lookup A_FIGURES = some ⟨.type "tuple", od_FIGURES, .seq #[.str "0" q_FIGURES_0, .str "1" q_FIGURES_1, .str "2" q_FIGURES_2, .str "3" q_FIGURES_3] nn_FIGURES, sl_FIGURES⟩) :
    ∃ fd : FuncData, (∀ (s : Shared) (v : Value), BindsTo s fd ⟨[v], []⟩ [("_law_script", v)]) /\ ∀ base : Heap, K.In base -> base.Ns mainGlobals mg -> FnOk l.prog w K mg base (CX1 l.prog w) 41 fa fd p_q27 (spW K mg 1 f_q27) := by
  have e := hfa.symm.trans (PySem.W.mg_of X G a_q27)
  cases e
  have F_q0 := fun_mk (st := s_q0) l_q0 cd_q0_ok k_q0
  have m_q0 := PySem.W.mg_of X G a_q0
  have F_q1 := fun_mk (st := s_q1) l_q1 cd_q1_ok k_q1
  have m_q1 := PySem.W.mg_of X G a_q1
  have F_q2 := fun_mk (st := s_q2) l_q2 cd_q2_ok k_q2
  have m_q2 := PySem.W.mg_of X G a_q2
  have F_q3 := fun_mk (st := s_q3) l_q3 cd_q3_ok k_q3
  have m_q3 := PySem.W.mg_of X G a_q3
  have F_q4 := fun_mk (st := s_q4) l_q4 cd_q4_ok k_q4
  have m_q4 := PySem.W.mg_of X G a_q4
  have F_q5 := fun_mk (st := s_q5) l_q5 cd_q5_ok k_q5
  have m_q5 := PySem.W.mg_of X G a_q5
  have F_q6 := fun_mk (st := s_q6) l_q6 cd_q6_ok k_q6
  have m_q6 := PySem.W.mg_of X G a_q6
  have F_q7 := fun_mk (st := s_q7) l_q7 cd_q7_ok k_q7
  have m_q7 := PySem.W.mg_of X G a_q7
  have F_q8 := fun_mk (st := s_q8) l_q8 cd_q8_ok k_q8
  have m_q8 := PySem.W.mg_of X G a_q8
  have F_q9 := fun_mk (st := s_q9) l_q9 cd_q9_ok k_q9
  have m_q9 := PySem.W.mg_of X G a_q9
  have F_q10 := fun_mk (st := s_q10) l_q10 cd_q10_ok k_q10
  have m_q10 := PySem.W.mg_of X G a_q10
  have F_q11 := fun_mk (st := s_q11) l_q11 cd_q11_ok k_q11
  have m_q11 := PySem.W.mg_of X G a_q11
  have F_q12 := fun_mk (st := s_q12) l_q12 cd_q12_ok k_q12
  have m_q12 := PySem.W.mg_of X G a_q12
  have F_q13 := fun_mk (st := s_q13) l_q13 cd_q13_ok k_q13
  have m_q13 := PySem.W.mg_of X G a_q13
  have F_q14 := fun_mk (st := s_q14) l_q14 cd_q14_ok k_q14
  have m_q14 := PySem.W.mg_of X G a_q14
  have F_q15 := fun_mk (st := s_q15) l_q15 cd_q15_ok k_q15
  have m_q15 := PySem.W.mg_of X G a_q15
  have F_q16 := fun_mk (st := s_q16) l_q16 cd_q16_ok k_q16
  have m_q16 := PySem.W.mg_of X G a_q16
  have F_q17 := fun_mk (st := s_q17) l_q17 cd_q17_ok k_q17
  have m_q17 := PySem.W.mg_of X G a_q17
  have F_q18 := fun_mk (st := s_q18) l_q18 cd_q18_ok k_q18
  have m_q18 := PySem.W.mg_of X G a_q18
  have F_q19 := fun_mk (st := s_q19) l_q19 cd_q19_ok k_q19
  have m_q19 := PySem.W.mg_of X G a_q19
  have F_q20 := fun_mk (st := s_q20) l_q20 cd_q20_ok k_q20
  have m_q20 := PySem.W.mg_of X G a_q20
  have F_q21 := fun_mk (st := s_q21) l_q21 cd_q21_ok k_q21
  have m_q21 := PySem.W.mg_of X G a_q21
  have F_q22 := fun_mk (st := s_q22) l_q22 cd_q22_ok k_q22
  have m_q22 := PySem.W.mg_of X G a_q22
  have F_q23 := fun_mk (st := s_q23) l_q23 cd_q23_ok k_q23
  have m_q23 := PySem.W.mg_of X G a_q23
  have F_q24 := fun_mk (st := s_q24) l_q24 cd_q24_ok k_q24
  have m_q24 := PySem.W.mg_of X G a_q24
  have F_q25 := fun_mk (st := s_q25) l_q25 cd_q25_ok k_q25
  have m_q25 := PySem.W.mg_of X G a_q25
  have F_q26 := fun_mk (st := s_q26) l_q26 cd_q26_ok k_q26
  have m_q26 := PySem.W.mg_of X G a_q26
  have F_q27 := fun_mk (st := s_q27) l_q27 cd_q27_ok k_q27
  have m_q27 := PySem.W.mg_of X G a_q27
  have B : Bl mg := ⟨PySem.W.mg_none_of X G z_ValueError, PySem.W.mg_none_of X G z_all, PySem.W.mg_none_of X G z_bool, PySem.W.mg_none_of X G z_int, PySem.W.mg_none_of X G z_isinstance, PySem.W.mg_none_of X G z_len, PySem.W.mg_none_of X G z_min, PySem.W.mg_none_of X G z_range, PySem.W.mg_none_of X G z_set, PySem.W.mg_none_of X G z_sorted, PySem.W.mg_none_of X G z_str, PySem.W.mg_none_of X G z_tuple⟩
  have C : Cls K mg := ⟨⟨A_TrunkError, PySem.W.mg_of X G a_TrunkError, x_TrunkError⟩, ⟨A_NoTree, PySem.W.mg_of X G a_NoTree, x_NoTree⟩, ⟨A_TooGreat, PySem.W.mg_of X G a_TooGreat, x_TooGreat⟩, ⟨A_NoLine, PySem.W.mg_of X G a_NoLine, ⟨fun c b hb => by by_cases e0 : c = "TrunkError"; (· subst e0; rw [show ti_NoLine "TrunkError" = some false from by decide +kernel] at hb; cases hb; exact ⟨A_TrunkError, PySem.W.mg_of X G a_TrunkError, x_TrunkError, ⟨g1_TrunkError, g2_TrunkError, g3_TrunkError⟩, w_TrunkError_NoLine⟩); by_cases e1 : c = "NoTree"; (· subst e1; rw [show ti_NoLine "NoTree" = some false from by decide +kernel] at hb; cases hb; exact ⟨A_NoTree, PySem.W.mg_of X G a_NoTree, x_NoTree, ⟨g1_NoTree, g2_NoTree, g3_NoTree⟩, w_NoTree_NoLine⟩); by_cases e2 : c = "TooGreat"; (· subst e2; rw [show ti_NoLine "TooGreat" = some false from by decide +kernel] at hb; cases hb; exact ⟨A_TooGreat, PySem.W.mg_of X G a_TooGreat, x_TooGreat, ⟨g1_TooGreat, g2_TooGreat, g3_TooGreat⟩, w_TooGreat_NoLine⟩); simp only [ti_NoLine, e0, e1, e2, if_false, reduceCtorEq] at hb⟩⟩, ⟨A_NoName, PySem.W.mg_of X G a_NoName, ⟨fun c b hb => by by_cases e0 : c = "TrunkError"; (· subst e0; rw [show ti_NoName "TrunkError" = some false from by decide +kernel] at hb; cases hb; exact ⟨A_TrunkError, PySem.W.mg_of X G a_TrunkError, x_TrunkError, ⟨g1_TrunkError, g2_TrunkError, g3_TrunkError⟩, w_TrunkError_NoName⟩); by_cases e1 : c = "NoTree"; (· subst e1; rw [show ti_NoName "NoTree" = some false from by decide +kernel] at hb; cases hb; exact ⟨A_NoTree, PySem.W.mg_of X G a_NoTree, x_NoTree, ⟨g1_NoTree, g2_NoTree, g3_NoTree⟩, w_NoTree_NoName⟩); by_cases e2 : c = "TooGreat"; (· subst e2; rw [show ti_NoName "TooGreat" = some false from by decide +kernel] at hb; cases hb; exact ⟨A_TooGreat, PySem.W.mg_of X G a_TooGreat, x_TooGreat, ⟨g1_TooGreat, g2_TooGreat, g3_TooGreat⟩, w_TooGreat_NoName⟩); simp only [ti_NoName, e0, e1, e2, if_false, reduceCtorEq] at hb⟩⟩, ⟨A_NoNumber, PySem.W.mg_of X G a_NoNumber, ⟨fun c b hb => by by_cases e0 : c = "TrunkError"; (· subst e0; rw [show ti_NoNumber "TrunkError" = some false from by decide +kernel] at hb; cases hb; exact ⟨A_TrunkError, PySem.W.mg_of X G a_TrunkError, x_TrunkError, ⟨g1_TrunkError, g2_TrunkError, g3_TrunkError⟩, w_TrunkError_NoNumber⟩); by_cases e1 : c = "NoTree"; (· subst e1; rw [show ti_NoNumber "NoTree" = some false from by decide +kernel] at hb; cases hb; exact ⟨A_NoTree, PySem.W.mg_of X G a_NoTree, x_NoTree, ⟨g1_NoTree, g2_NoTree, g3_NoTree⟩, w_NoTree_NoNumber⟩); by_cases e2 : c = "TooGreat"; (· subst e2; rw [show ti_NoNumber "TooGreat" = some false from by decide +kernel] at hb; cases hb; exact ⟨A_TooGreat, PySem.W.mg_of X G a_TooGreat, x_TooGreat, ⟨g1_TooGreat, g2_TooGreat, g3_TooGreat⟩, w_TooGreat_NoNumber⟩); simp only [ti_NoNumber, e0, e1, e2, if_false, reduceCtorEq] at hb⟩⟩, ⟨A_NoPlace, PySem.W.mg_of X G a_NoPlace, ⟨fun c b hb => by by_cases e0 : c = "TrunkError"; (· subst e0; rw [show ti_NoPlace "TrunkError" = some false from by decide +kernel] at hb; cases hb; exact ⟨A_TrunkError, PySem.W.mg_of X G a_TrunkError, x_TrunkError, ⟨g1_TrunkError, g2_TrunkError, g3_TrunkError⟩, w_TrunkError_NoPlace⟩); by_cases e1 : c = "NoTree"; (· subst e1; rw [show ti_NoPlace "NoTree" = some false from by decide +kernel] at hb; cases hb; exact ⟨A_NoTree, PySem.W.mg_of X G a_NoTree, x_NoTree, ⟨g1_NoTree, g2_NoTree, g3_NoTree⟩, w_NoTree_NoPlace⟩); by_cases e2 : c = "TooGreat"; (· subst e2; rw [show ti_NoPlace "TooGreat" = some false from by decide +kernel] at hb; cases hb; exact ⟨A_TooGreat, PySem.W.mg_of X G a_TooGreat, x_TooGreat, ⟨g1_TooGreat, g2_TooGreat, g3_TooGreat⟩, w_TooGreat_NoPlace⟩); simp only [ti_NoPlace, e0, e1, e2, if_false, reduceCtorEq] at hb⟩⟩, ⟨A_NoStatement, PySem.W.mg_of X G a_NoStatement, ⟨fun c b hb => by by_cases e0 : c = "TrunkError"; (· subst e0; rw [show ti_NoStatement "TrunkError" = some false from by decide +kernel] at hb; cases hb; exact ⟨A_TrunkError, PySem.W.mg_of X G a_TrunkError, x_TrunkError, ⟨g1_TrunkError, g2_TrunkError, g3_TrunkError⟩, w_TrunkError_NoStatement⟩); by_cases e1 : c = "NoTree"; (· subst e1; rw [show ti_NoStatement "NoTree" = some false from by decide +kernel] at hb; cases hb; exact ⟨A_NoTree, PySem.W.mg_of X G a_NoTree, x_NoTree, ⟨g1_NoTree, g2_NoTree, g3_NoTree⟩, w_NoTree_NoStatement⟩); by_cases e2 : c = "TooGreat"; (· subst e2; rw [show ti_NoStatement "TooGreat" = some false from by decide +kernel] at hb; cases hb; exact ⟨A_TooGreat, PySem.W.mg_of X G a_TooGreat, x_TooGreat, ⟨g1_TooGreat, g2_TooGreat, g3_TooGreat⟩, w_TooGreat_NoStatement⟩); simp only [ti_NoStatement, e0, e1, e2, if_false, reduceCtorEq] at hb⟩⟩, ⟨A_NoTree, PySem.W.mg_of X G a_NoTree, ⟨fun c b hb => by by_cases e0 : c = "TrunkError"; (· subst e0; rw [show ti_NoTree "TrunkError" = some false from by decide +kernel] at hb; cases hb; exact ⟨A_TrunkError, PySem.W.mg_of X G a_TrunkError, x_TrunkError, ⟨g1_TrunkError, g2_TrunkError, g3_TrunkError⟩, w_TrunkError_NoTree⟩); by_cases e1 : c = "NoTree"; (· subst e1; rw [show ti_NoTree "NoTree" = some true from by decide +kernel] at hb; cases hb; exact ⟨A_NoTree, PySem.W.mg_of X G a_NoTree, x_NoTree, ⟨g1_NoTree, g2_NoTree, g3_NoTree⟩, w_NoTree_NoTree⟩); by_cases e2 : c = "TooGreat"; (· subst e2; rw [show ti_NoTree "TooGreat" = some false from by decide +kernel] at hb; cases hb; exact ⟨A_TooGreat, PySem.W.mg_of X G a_TooGreat, x_TooGreat, ⟨g1_TooGreat, g2_TooGreat, g3_TooGreat⟩, w_TooGreat_NoTree⟩); simp only [ti_NoTree, e0, e1, e2, if_false, reduceCtorEq] at hb⟩⟩, ⟨A_NothingDone, PySem.W.mg_of X G a_NothingDone, ⟨fun c b hb => by by_cases e0 : c = "TrunkError"; (· subst e0; rw [show ti_NothingDone "TrunkError" = some false from by decide +kernel] at hb; cases hb; exact ⟨A_TrunkError, PySem.W.mg_of X G a_TrunkError, x_TrunkError, ⟨g1_TrunkError, g2_TrunkError, g3_TrunkError⟩, w_TrunkError_NothingDone⟩); by_cases e1 : c = "NoTree"; (· subst e1; rw [show ti_NothingDone "NoTree" = some false from by decide +kernel] at hb; cases hb; exact ⟨A_NoTree, PySem.W.mg_of X G a_NoTree, x_NoTree, ⟨g1_NoTree, g2_NoTree, g3_NoTree⟩, w_NoTree_NothingDone⟩); by_cases e2 : c = "TooGreat"; (· subst e2; rw [show ti_NothingDone "TooGreat" = some false from by decide +kernel] at hb; cases hb; exact ⟨A_TooGreat, PySem.W.mg_of X G a_TooGreat, x_TooGreat, ⟨g1_TooGreat, g2_TooGreat, g3_TooGreat⟩, w_TooGreat_NothingDone⟩); simp only [ti_NothingDone, e0, e1, e2, if_false, reduceCtorEq] at hb⟩⟩, ⟨A_NothingHeld, PySem.W.mg_of X G a_NothingHeld, ⟨fun c b hb => by by_cases e0 : c = "TrunkError"; (· subst e0; rw [show ti_NothingHeld "TrunkError" = some false from by decide +kernel] at hb; cases hb; exact ⟨A_TrunkError, PySem.W.mg_of X G a_TrunkError, x_TrunkError, ⟨g1_TrunkError, g2_TrunkError, g3_TrunkError⟩, w_TrunkError_NothingHeld⟩); by_cases e1 : c = "NoTree"; (· subst e1; rw [show ti_NothingHeld "NoTree" = some false from by decide +kernel] at hb; cases hb; exact ⟨A_NoTree, PySem.W.mg_of X G a_NoTree, x_NoTree, ⟨g1_NoTree, g2_NoTree, g3_NoTree⟩, w_NoTree_NothingHeld⟩); by_cases e2 : c = "TooGreat"; (· subst e2; rw [show ti_NothingHeld "TooGreat" = some false from by decide +kernel] at hb; cases hb; exact ⟨A_TooGreat, PySem.W.mg_of X G a_TooGreat, x_TooGreat, ⟨g1_TooGreat, g2_TooGreat, g3_TooGreat⟩, w_TooGreat_NothingHeld⟩); simp only [ti_NothingHeld, e0, e1, e2, if_false, reduceCtorEq] at hb⟩⟩, ⟨A_TooGreat, PySem.W.mg_of X G a_TooGreat, ⟨fun c b hb => by by_cases e0 : c = "TrunkError"; (· subst e0; rw [show ti_TooGreat "TrunkError" = some false from by decide +kernel] at hb; cases hb; exact ⟨A_TrunkError, PySem.W.mg_of X G a_TrunkError, x_TrunkError, ⟨g1_TrunkError, g2_TrunkError, g3_TrunkError⟩, w_TrunkError_TooGreat⟩); by_cases e1 : c = "NoTree"; (· subst e1; rw [show ti_TooGreat "NoTree" = some false from by decide +kernel] at hb; cases hb; exact ⟨A_NoTree, PySem.W.mg_of X G a_NoTree, x_NoTree, ⟨g1_NoTree, g2_NoTree, g3_NoTree⟩, w_NoTree_TooGreat⟩); by_cases e2 : c = "TooGreat"; (· subst e2; rw [show ti_TooGreat "TooGreat" = some true from by decide +kernel] at hb; cases hb; exact ⟨A_TooGreat, PySem.W.mg_of X G a_TooGreat, x_TooGreat, ⟨g1_TooGreat, g2_TooGreat, g3_TooGreat⟩, w_TooGreat_TooGreat⟩); simp only [ti_TooGreat, e0, e1, e2, if_false, reduceCtorEq] at hb⟩⟩, ⟨fun c b hb => by by_cases e0 : c = "TrunkError"; (· subst e0; rw [show ti_ValueError "TrunkError" = some true from by decide +kernel] at hb; cases hb; exact ⟨A_TrunkError, PySem.W.mg_of X G a_TrunkError, x_TrunkError, ⟨g1_TrunkError, g2_TrunkError, g3_TrunkError⟩, w_TrunkError_VE⟩); by_cases e1 : c = "NoTree"; (· subst e1; rw [show ti_ValueError "NoTree" = some true from by decide +kernel] at hb; cases hb; exact ⟨A_NoTree, PySem.W.mg_of X G a_NoTree, x_NoTree, ⟨g1_NoTree, g2_NoTree, g3_NoTree⟩, w_NoTree_VE⟩); by_cases e2 : c = "TooGreat"; (· subst e2; rw [show ti_ValueError "TooGreat" = some true from by decide +kernel] at hb; cases hb; exact ⟨A_TooGreat, PySem.W.mg_of X G a_TooGreat, x_TooGreat, ⟨g1_TooGreat, g2_TooGreat, g3_TooGreat⟩, w_TooGreat_VE⟩); simp only [ti_ValueError, e0, e1, e2, if_false, reduceCtorEq] at hb⟩, ⟨fun c hc => by simp only [List.mem_cons, List.not_mem_nil, or_false] at hc; rcases hc with rfl | rfl | rfl; (· exact ⟨A_TrunkError, A_TrunkError, PySem.W.mg_of X G a_TrunkError, PySem.W.mg_of X G a_TrunkError, x_TrunkError, x_TrunkError, u_TrunkError_TrunkError⟩); (· exact ⟨A_NoTree, A_TrunkError, PySem.W.mg_of X G a_NoTree, PySem.W.mg_of X G a_TrunkError, x_NoTree, x_TrunkError, u_NoTree_TrunkError⟩); (· exact ⟨A_TooGreat, A_TrunkError, PySem.W.mg_of X G a_TooGreat, PySem.W.mg_of X G a_TrunkError, x_TooGreat, x_TrunkError, u_TooGreat_TrunkError⟩)⟩⟩
  have Gg : Gc K mg := ⟨⟨_, .str (tx [65, 66, 67, 68, 69, 70, 71, 72, 73, 74, 75, 76, 77, 78, 79, 80, 81, 82, 83, 84, 85, 86, 87, 88, 89, 90, 97, 98, 99, 100, 101, 102, 103, 104, 105, 106, 107, 108, 109, 110, 111, 112, 113, 114, 115, 116, 117, 118, 119, 120, 121, 122]), PySem.W.mg_of X G a_ALL_LETTERS, ⟨_, by rw [show Str.ofString "ABCDEFGHIJKLMNOPQRSTUVWXYZabcdefghijklmnopqrstuvwxyz" = tx [65, 66, 67, 68, 69, 70, 71, 72, 73, 74, 75, 76, 77, 78, 79, 80, 81, 82, 83, 84, 85, 86, 87, 88, 89, 90, 97, 98, 99, 100, 101, 102, 103, 104, 105, 106, 107, 108, 109, 110, 111, 112, 113, 114, 115, 116, 117, 118, 119, 120, 121, 122] from by decide +kernel]⟩, fun μ H => .str⟩, ⟨_, .int 100, PySem.W.mg_of X G a_MOST_PLACES, ⟨_, rfl⟩, fun μ H => .int⟩, ⟨_, .str (tx [45]), PySem.W.mg_of X G a_EMPTY, ⟨_, by rw [show Str.ofString "-" = tx [45] from by decide +kernel]⟩, fun μ H => .str⟩, ⟨_, .ref A_FIGURES, PySem.W.mg_of X G a_FIGURES, rfl, fun μ H => .tupI (vs := [V.str (tx [48]), V.str (tx [49]), V.str (tx [50]), V.str (tx [51])]) (.inr ⟨_, _, _, l_FIGURES, rfl, rfl, by show 4 <= sizeLine; decide, .cons ⟨_, by rw [show Str.ofString "0" = tx [48] from by decide +kernel]⟩ (.cons ⟨_, by rw [show Str.ofString "1" = tx [49] from by decide +kernel]⟩ (.cons ⟨_, by rw [show Str.ofString "2" = tx [50] from by decide +kernel]⟩ (.cons ⟨_, by rw [show Str.ofString "3" = tx [51] from by decide +kernel]⟩ (.nil))))⟩) (.consI .str (.consI .str (.consI .str (.consI .str (.nilI)))))⟩⟩
  refine ⟨PySem.W.fnOf "law" "law" (defArgs s_q27) (defBody s_q27) (defScope s_q27) .none kV_q27 dc_q27 pm_q27 an_q27 cd_q27 ct_q27, fun s v => .of_eq rfl, fun base _ _ => ?_⟩
  have h_q0 : HasW l.prog w K mg base 1 "is_letter" 1 f_q0 := hasW_mk (ps := p_q0) F_q0 m_q0 rfl (fun _ _ _ _ _ _ us hl => match us, hl with | [_], _ => rfl) (ok_q0 F_q0 B Gg )
  have h_q1 : HasW l.prog w K mg base 1 "in_order" 1 f_q1 := hasW_mk (ps := p_q1) F_q1 m_q1 rfl (fun _ _ _ _ _ _ us hl => match us, hl with | [_], _ => rfl) (ok_q1 F_q1 B )
  have h_q2 : HasW l.prog w K mg base 2 "is_row" 1 f_q2 := hasW_mk (ps := p_q2) F_q2 m_q2 rfl (fun _ _ _ _ _ _ us hl => match us, hl with | [_], _ => rfl) (ok_q2 F_q2 B h_q1 h_q0)
  have h_q3 : HasW l.prog w K mg base 1 "has_left" 1 f_q3 := hasW_mk (ps := p_q3) F_q3 m_q3 rfl (fun _ _ _ _ _ _ us hl => match us, hl with | [_], _ => rfl) (ok_q3 F_q3  )
  have h_q4 : HasW l.prog w K mg base 1 "has_right" 1 f_q4 := hasW_mk (ps := p_q4) F_q4 m_q4 rfl (fun _ _ _ _ _ _ us hl => match us, hl with | [_], _ => rfl) (ok_q4 F_q4  )
  have h_q5 : HasW l.prog w K mg base 1 "is_whole" 1 f_q5 := hasW_mk (ps := p_q5) F_q5 m_q5 rfl (fun _ _ _ _ _ _ us hl => match us, hl with | [_], _ => rfl) (ok_q5 F_q5 B )
  have h_q6 : HasW l.prog w K mg base 3 "is_place" 1 f_q6 := hasW_mk (ps := p_q6) F_q6 m_q6 rfl (fun _ _ _ _ _ _ us hl => match us, hl with | [_], _ => rfl) (ok_q6 F_q6 B h_q2 h_q5)
  have h_q7 : HasW l.prog w K mg base 4 "is_tree" 1 f_q7 := hasW_mk (ps := p_q7) F_q7 m_q7 rfl (fun _ _ _ _ _ _ us hl => match us, hl with | [_], _ => rfl) (ok_q7 F_q7 B h_q3 h_q4 h_q6)
  have h_q8 : HasW l.prog w K mg base 1 "read_place" 1 f_q8 := hasW_mk (ps := p_q8) F_q8 m_q8 rfl (fun _ _ _ _ _ _ us hl => match us, hl with | [_], _ => rfl) (ok_q8 F_q8 B Gg C )
  have h_q9 : HasW l.prog w K mg base 5 "read_tree" 1 f_q9 := hasW_mk (ps := p_q9) F_q9 m_q9 rfl (fun _ _ _ _ _ _ us hl => match us, hl with | [_], _ => rfl) (ok_q9 F_q9 B Gg C h_q7 h_q8)
  have h_q10 : HasW l.prog w K mg base 1 "_law_cell" 2 f_q10 := hasW_mk (ps := p_q10) F_q10 m_q10 rfl (fun _ _ _ _ _ _ us hl => match us, hl with | [_, _], _ => rfl) (ok_q10 F_q10 B )
  have h_q11 : HasW l.prog w K mg base 1 "_law_mixed" 3 f_q11 := hasW_mk (ps := p_q11) F_q11 m_q11 rfl (fun _ _ _ _ _ _ us hl => match us, hl with | [_, _, _], _ => rfl) (ok_q11 F_q11  )
  have h_q12 : HasW l.prog w K mg base 2 "_law_draws" 3 f_q12 := hasW_mk (ps := p_q12) F_q12 m_q12 rfl (fun _ _ _ _ _ _ us hl => match us, hl with | [_, _, _], _ => rfl) (ok_q12 F_q12 B h_q11)
  have h_q13 : HasW l.prog w K mg base 3 "_law_size" 3 f_q13 := hasW_mk (ps := p_q13) F_q13 m_q13 rfl (fun _ _ _ _ _ _ us hl => match us, hl with | [_, _, _], _ => rfl) (ok_q13 F_q13  h_q12)
  have h_q14 := has_q14 (P := l.prog) (w := w) (base := base) F_q14 m_q14 B  40
  have h_q15 : HasW l.prog w K mg base 3 "_law_pool" 3 f_q15 := hasW_mk (ps := p_q15) F_q15 m_q15 rfl (fun _ _ _ _ _ _ us hl => match us, hl with | [_, _, _], _ => rfl) (ok_q15 F_q15 B h_q12)
  have h_q16 : HasW l.prog w K mg base 1 "_law_marks" 2 f_q16 := hasW_mk (ps := p_q16) F_q16 m_q16 rfl (fun _ _ _ _ _ _ us hl => match us, hl with | [_, _], _ => rfl) (ok_q16 F_q16 B )
  have h_q17 : HasW l.prog w K mg base 2 "_law_wood" 3 f_q17 := hasW_mk (ps := p_q17) F_q17 m_q17 rfl (fun _ _ _ _ _ _ us hl => match us, hl with | [_, _, _], _ => rfl) (ok_q17 F_q17 B h_q16)
  have h_q18 : HasW l.prog w K mg base 1 "_law_letters" 0 f_q18 := hasW_mk (ps := p_q18) F_q18 m_q18 rfl (fun _ _ _ _ _ _ us hl => match us, hl with | [], _ => rfl) (ok_q18 F_q18  )
  have h_q19 : HasW l.prog w K mg base 1 "_law_signs" 0 f_q19 := hasW_mk (ps := p_q19) F_q19 m_q19 rfl (fun _ _ _ _ _ _ us hl => match us, hl with | [], _ => rfl) (ok_q19 F_q19  )
  have h_q20 : HasH l.prog w K mg base 1 "_law_kinds" 1 f_q20 := hasH_mk (ps := p_q20) F_q20 m_q20 rfl (fun _ _ _ _ _ _ us hl => match us, hl with | [_], _ => rfl) (ok_q20 F_q20 B C )
  have h_q21 : HasW l.prog w K mg base 1 "_law_due_refusal" 1 f_q21 := hasW_mk (ps := p_q21) F_q21 m_q21 rfl (fun _ _ _ _ _ _ us hl => match us, hl with | [_], _ => rfl) (ok_q21 F_q21 B )
  have h_q22 : HasW l.prog w K mg base 1 "_law_text" 1 f_q22 := hasW_mk (ps := p_q22) F_q22 m_q22 rfl (fun _ _ _ _ _ _ us hl => match us, hl with | [_], _ => rfl) (ok_q22 F_q22 B )
  have h_q23 : HasW l.prog w K mg base 6 "_law_read" 1 f_q23 := hasW_mk (ps := p_q23) F_q23 m_q23 rfl (fun _ _ _ _ _ _ us hl => match us, hl with | [_], _ => rfl) (ok_q23 F_q23 C h_q20 h_q9)
  have h_q24 : HasW l.prog w K mg base 2 "_law_due_place" 1 f_q24 := hasW_mk (ps := p_q24) F_q24 m_q24 rfl (fun _ _ _ _ _ _ us hl => match us, hl with | [_], _ => rfl) (ok_q24 F_q24 B h_q18)
  have h_q25 : HasW l.prog w K mg base 3 "_law_due" 1 f_q25 := hasW_mk (ps := p_q25) F_q25 m_q25 rfl (fun _ _ _ _ _ _ us hl => match us, hl with | [_], _ => rfl) (ok_q25 F_q25 B h_q24 h_q21)
  have h_q26 : HasW l.prog w K mg base 2 "_law_spoilt" 2 f_q26 := hasW_mk (ps := p_q26) F_q26 m_q26 rfl (fun _ _ _ _ _ _ us hl => match us, hl with | [_, _], _ => rfl) (ok_q26 F_q26 B h_q18 h_q19)
  exact ok_q27 F_q27 B h_q10 h_q12 h_q25 h_q15 h_q23 h_q14 h_q13 h_q26 h_q22 h_q17
end P
def PySem.W.Fast.tw164441469333139165 : Unit := ()
def PySem.W.Fast.tw5756313518622130395 : Unit := ()
def PySem.W.Fast.tw461038432098085370 : Unit := ()
def PySem.W.Fast.tw11341795545703841783 : Unit := ()
def PySem.W.Fast.tw5052019266313390199 : Unit := ()
def PySem.W.Fast.tw12117924531121969239 : Unit := ()
def PySem.W.Fast.tw1964271038578471893 : Unit := ()
def PySem.W.Fast.tw370906422887701 : Unit := ()
def PySem.W.Fast.tw5567058992425286228 : Unit := ()
def PySem.W.Fast.tw15944970313349744817 : Unit := ()
def PySem.W.Fast.tw11712112668204888558 : Unit := ()
def PySem.W.Fast.tw13021193182763540942 : Unit := ()
def PySem.W.Fast.tw6026228807976912046 : Unit := ()
def PySem.W.Fast.tw16360355270511263309 : Unit := ()
def PySem.W.Fast.tw10912419433562224588 : Unit := ()
def PySem.W.Fast.tw12607752719710891532 : Unit := ()
def PySem.W.Fast.tw9323724246374375948 : Unit := ()
def PySem.W.Fast.tw11064329562395391787 : Unit := ()
def PySem.W.Fast.tw700352719452913609 : Unit := ()
def PySem.W.Fast.tw10836991771650024200 : Unit := ()
def PySem.W.Fast.tw18198111399943733222 : Unit := ()
def PySem.W.Fast.tw15529691958607095622 : Unit := ()
def PySem.W.Fast.tw10283425795346633062 : Unit := ()
def PySem.W.Fast.tw8101821890780723462 : Unit := ()
def PySem.W.Fast.tw18176329284220327205 : Unit := ()
def PySem.W.Fast.tw6459840256069680964 : Unit := ()
def PySem.W.Fast.tw9956319394787358754 : Unit := ()
def PySem.W.Fast.tw15924143291178153889 : Unit := ()
def PySem.W.Fast.tw12605305292373356928 : Unit := ()
def PySem.W.Fast.tw764942354900065962 : Unit := ()
open PySem PySem.W PyProof.Rows
set_option maxRecDepth 100000 in
set_option maxHeartbeats 0 in
theorem PySem.Challenge.cw_trunksay_k10_tree_texts_refused_holds : PySem.Challenge.rw_trunksay_k10_tree_texts_refused.Holds := by
  w_on; o_law; k_head; (case hw => w_witness2)
  k_fill
  refine L2.walkW (l := PySem.Challenge.rw_trunksay_k10_tree_texts_refused) (k := 41) (x := "_law_script") (G := P.f_q27) rfl rfl ⟨rfl, by decide, by decide⟩ (fun w h Y => PySem.W.kIn_of Y) ?F P.law_ok
  case F =>
    intro w mg fa h KX G hmg
    refine' P.all_mk KX G hmg ?a_q0 ?l_q0 ?cd_q0_ok ?k_q0 ?a_q1 ?l_q1 ?cd_q1_ok ?k_q1 ?a_q2 ?l_q2 ?cd_q2_ok ?k_q2 ?a_q3 ?l_q3 ?cd_q3_ok ?k_q3 ?a_q4 ?l_q4 ?cd_q4_ok ?k_q4 ?a_q5 ?l_q5 ?cd_q5_ok ?k_q5 ?a_q6 ?l_q6 ?cd_q6_ok ?k_q6 ?a_q7 ?l_q7 ?cd_q7_ok ?k_q7 ?a_q8 ?l_q8 ?cd_q8_ok ?k_q8 ?a_q9 ?l_q9 ?cd_q9_ok ?k_q9 ?a_q10 ?l_q10 ?cd_q10_ok ?k_q10 ?a_q11 ?l_q11 ?cd_q11_ok ?k_q11 ?a_q12 ?l_q12 ?cd_q12_ok ?k_q12 ?a_q13 ?l_q13 ?cd_q13_ok ?k_q13 ?a_q14 ?l_q14 ?cd_q14_ok ?k_q14 ?a_q15 ?l_q15 ?cd_q15_ok ?k_q15 ?a_q16 ?l_q16 ?cd_q16_ok ?k_q16 ?a_q17 ?l_q17 ?cd_q17_ok ?k_q17 ?a_q18 ?l_q18 ?cd_q18_ok ?k_q18 ?a_q19 ?l_q19 ?cd_q19_ok ?k_q19 ?a_q20 ?l_q20 ?cd_q20_ok ?k_q20 ?a_q21 ?l_q21 ?cd_q21_ok ?k_q21 ?a_q22 ?l_q22 ?cd_q22_ok ?k_q22 ?a_q23 ?l_q23 ?cd_q23_ok ?k_q23 ?a_q24 ?l_q24 ?cd_q24_ok ?k_q24 ?a_q25 ?l_q25 ?cd_q25_ok ?k_q25 ?a_q26 ?l_q26 ?cd_q26_ok ?k_q26 ?a_q27 ?l_q27 ?cd_q27_ok ?k_q27 ?a_TrunkError ?a_NoTree ?a_NoStatement ?a_NoPlace ?a_NoNumber ?a_TooGreat ?a_NoName ?a_NoLine ?a_NothingDone ?a_NothingHeld ?x_TrunkError ?g1_TrunkError ?g2_TrunkError ?g3_TrunkError ?w_TrunkError_NoLine ?w_TrunkError_NoName ?w_TrunkError_NoNumber ?w_TrunkError_NoPlace ?w_TrunkError_NoStatement ?w_TrunkError_NoTree ?w_TrunkError_NothingDone ?w_TrunkError_NothingHeld ?w_TrunkError_TooGreat ?w_TrunkError_VE ?x_NoTree ?g1_NoTree ?g2_NoTree ?g3_NoTree ?w_NoTree_NoLine ?w_NoTree_NoName ?w_NoTree_NoNumber ?w_NoTree_NoPlace ?w_NoTree_NoStatement ?w_NoTree_NoTree ?w_NoTree_NothingDone ?w_NoTree_NothingHeld ?w_NoTree_TooGreat ?w_NoTree_VE ?x_TooGreat ?g1_TooGreat ?g2_TooGreat ?g3_TooGreat ?w_TooGreat_NoLine ?w_TooGreat_NoName ?w_TooGreat_NoNumber ?w_TooGreat_NoPlace ?w_TooGreat_NoStatement ?w_TooGreat_NoTree ?w_TooGreat_NothingDone ?w_TooGreat_NothingHeld ?w_TooGreat_TooGreat ?w_TooGreat_VE ?u_TrunkError_TrunkError ?u_NoTree_TrunkError ?u_TooGreat_TrunkError ?z_ValueError ?z_all ?z_bool ?z_int ?z_isinstance ?z_len ?z_min ?z_range ?z_set ?z_sorted ?z_str ?z_tuple ?a_ALL_LETTERS ?a_MOST_PLACES ?a_EMPTY ?a_FIGURES ?l_FIGURES
    (case a_q0 => k_is)
    (case l_q0 => k_is)
    (case cd_q0_ok => k_is)
    (case k_q0 => k_is)
    (case a_q1 => k_is)
    (case l_q1 => k_is)
    (case cd_q1_ok => k_is)
    (case k_q1 => k_is)
    (case a_q2 => k_is)
    (case l_q2 => k_is)
    (case cd_q2_ok => k_is)
    (case k_q2 => k_is)
    (case a_q3 => k_is)
    (case l_q3 => k_is)
    (case cd_q3_ok => k_is)
    (case k_q3 => k_is)
    (case a_q4 => k_is)
    (case l_q4 => k_is)
    (case cd_q4_ok => k_is)
    (case k_q4 => k_is)
    (case a_q5 => k_is)
    (case l_q5 => k_is)
    (case cd_q5_ok => k_is)
    (case k_q5 => k_is)
    (case a_q6 => k_is)
    (case l_q6 => k_is)
    (case cd_q6_ok => k_is)
    (case k_q6 => k_is)
    (case a_q7 => k_is)
    (case l_q7 => k_is)
    (case cd_q7_ok => k_is)
    (case k_q7 => k_is)
    (case a_q8 => k_is)
    (case l_q8 => k_is)
    (case cd_q8_ok => k_is)
    (case k_q8 => k_is)
    (case a_q9 => k_is)
    (case l_q9 => k_is)
    (case cd_q9_ok => k_is)
    (case k_q9 => k_is)
    (case a_q10 => k_is)
    (case l_q10 => k_is)
    (case cd_q10_ok => k_is)
    (case k_q10 => k_is)
    (case a_q11 => k_is)
    (case l_q11 => k_is)
    (case cd_q11_ok => k_is)
    (case k_q11 => k_is)
    (case a_q12 => k_is)
    (case l_q12 => k_is)
    (case cd_q12_ok => k_is)
    (case k_q12 => k_is)
    (case a_q13 => k_is)
    (case l_q13 => k_is)
    (case cd_q13_ok => k_is)
    (case k_q13 => k_is)
    (case a_q14 => k_is)
    (case l_q14 => k_is)
    (case cd_q14_ok => k_is)
    (case k_q14 => k_is)
    (case a_q15 => k_is)
    (case l_q15 => k_is)
    (case cd_q15_ok => k_is)
    (case k_q15 => k_is)
    (case a_q16 => k_is)
    (case l_q16 => k_is)
    (case cd_q16_ok => k_is)
    (case k_q16 => k_is)
    (case a_q17 => k_is)
    (case l_q17 => k_is)
    (case cd_q17_ok => k_is)
    (case k_q17 => k_is)
    (case a_q18 => k_is)
    (case l_q18 => k_is)
    (case cd_q18_ok => k_is)
    (case k_q18 => k_is)
    (case a_q19 => k_is)
    (case l_q19 => k_is)
    (case cd_q19_ok => k_is)
    (case k_q19 => k_is)
    (case a_q20 => k_is)
    (case l_q20 => k_is)
    (case cd_q20_ok => k_is)
    (case k_q20 => k_is)
    (case a_q21 => k_is)
    (case l_q21 => k_is)
    (case cd_q21_ok => k_is)
    (case k_q21 => k_is)
    (case a_q22 => k_is)
    (case l_q22 => k_is)
    (case cd_q22_ok => k_is)
    (case k_q22 => k_is)
    (case a_q23 => k_is)
    (case l_q23 => k_is)
    (case cd_q23_ok => k_is)
    (case k_q23 => k_is)
    (case a_q24 => k_is)
    (case l_q24 => k_is)
    (case cd_q24_ok => k_is)
    (case k_q24 => k_is)
    (case a_q25 => k_is)
    (case l_q25 => k_is)
    (case cd_q25_ok => k_is)
    (case k_q25 => k_is)
    (case a_q26 => k_is)
    (case l_q26 => k_is)
    (case cd_q26_ok => k_is)
    (case k_q26 => k_is)
    (case a_q27 => k_is)
    (case l_q27 => k_is)
    (case cd_q27_ok => k_is)
    (case k_q27 => k_is)
    (case a_TrunkError => k_is)
    (case a_NoTree => k_is)
    (case a_NoStatement => k_is)
    (case a_NoPlace => k_is)
    (case a_NoNumber => k_is)
    (case a_TooGreat => k_is)
    (case a_NoName => k_is)
    (case a_NoLine => k_is)
    (case a_NothingDone => k_is)
    (case a_NothingHeld => k_is)
    (case x_TrunkError => k_exc)
    (case g1_TrunkError => k_is)
    (case g2_TrunkError => k_is)
    (case g3_TrunkError => k_is)
    (case w_TrunkError_NoLine => kernel_rfl)
    (case w_TrunkError_NoName => kernel_rfl)
    (case w_TrunkError_NoNumber => kernel_rfl)
    (case w_TrunkError_NoPlace => kernel_rfl)
    (case w_TrunkError_NoStatement => kernel_rfl)
    (case w_TrunkError_NoTree => kernel_rfl)
    (case w_TrunkError_NothingDone => kernel_rfl)
    (case w_TrunkError_NothingHeld => kernel_rfl)
    (case w_TrunkError_TooGreat => kernel_rfl)
    (case w_TrunkError_VE => kernel_rfl)
    (case x_NoTree => k_exc)
    (case g1_NoTree => k_is)
    (case g2_NoTree => k_is)
    (case g3_NoTree => k_is)
    (case w_NoTree_NoLine => kernel_rfl)
    (case w_NoTree_NoName => kernel_rfl)
    (case w_NoTree_NoNumber => kernel_rfl)
    (case w_NoTree_NoPlace => kernel_rfl)
    (case w_NoTree_NoStatement => kernel_rfl)
    (case w_NoTree_NoTree => kernel_rfl)
    (case w_NoTree_NothingDone => kernel_rfl)
    (case w_NoTree_NothingHeld => kernel_rfl)
    (case w_NoTree_TooGreat => kernel_rfl)
    (case w_NoTree_VE => kernel_rfl)
    (case x_TooGreat => k_exc)
    (case g1_TooGreat => k_is)
    (case g2_TooGreat => k_is)
    (case g3_TooGreat => k_is)
    (case w_TooGreat_NoLine => kernel_rfl)
    (case w_TooGreat_NoName => kernel_rfl)
    (case w_TooGreat_NoNumber => kernel_rfl)
    (case w_TooGreat_NoPlace => kernel_rfl)
    (case w_TooGreat_NoStatement => kernel_rfl)
    (case w_TooGreat_NoTree => kernel_rfl)
    (case w_TooGreat_NothingDone => kernel_rfl)
    (case w_TooGreat_NothingHeld => kernel_rfl)
    (case w_TooGreat_TooGreat => kernel_rfl)
    (case w_TooGreat_VE => kernel_rfl)
    (case u_TrunkError_TrunkError => kernel_rfl)
    (case u_NoTree_TrunkError => kernel_rfl)
    (case u_TooGreat_TrunkError => kernel_rfl)
    (case z_ValueError => k_is)
    (case z_all => k_is)
    (case z_bool => k_is)
    (case z_int => k_is)
    (case z_isinstance => k_is)
    (case z_len => k_is)
    (case z_min => k_is)
    (case z_range => k_is)
    (case z_set => k_is)
    (case z_sorted => k_is)
    (case z_str => k_is)
    (case z_tuple => k_is)
    (case a_ALL_LETTERS => k_is)
    (case a_MOST_PLACES => k_is)
    (case a_EMPTY => k_is)
    (case a_FIGURES => k_is)
    (case l_FIGURES => k_is)
