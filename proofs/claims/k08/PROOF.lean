import PyProof.Rows.All
import Wide.All
import OpenK.AllK
import Wide.FinOn
import Lean
import PyProof.EqAt
import PyProof.EqKinds
import PyProof.TupleCall
import PyProof.StrLawsIn
import PyProof.StationsW
import PyProof.NeData
import OpenK.KOwn
import PyProof.NsDelKeeps
import PyProof.ExcArgsOwn
import PyProof.ExcAttrAll.ValueError
import PyProof.IsiH_tuple
import KE.KIsAll
import PyProof.CollectStr
import PyProof.ZipIter
import PyProof.Rows.ZipGen
import PyProof.JoinWalk
import PyProof.CollectIter
import PyProof.EnumMake
import PyProof.SumAny
import PyProof.MeetsSeq3
import PyProof.StrCalls6
import PySem.Challenge.RW_trunksay_k08_order_of_trees
-- CHANGE: your row's module here, as the last of these rows
set_option Elab.async false
set_option linter.all false
set_option maxRecDepth 100000
namespace L2
open PySem PySem.Spec PyProof.Rows
theorem runs_le {M : Model} {Γ : PySem.Ctx} {p : Pos} {t : Sem Fin} {fs : List Frame} {s s' : Shared} {e : End} (h : Runs M Γ p t fs s e s') : s.toks ≤ s'.toks := by
  induction h
  case fresh ih => exact Nat.le_trans (Nat.le_succ _) ih
  case call i1 i2 => exact Nat.le_trans i1 i2
  case resumeFresh i1 i2 => exact Nat.le_trans i1 i2
  case resumeSuspended i1 i2 => exact Nat.le_trans i1 i2
  case segRet i1 i2 => exact Nat.le_trans i1 i2
  case segGen i1 i2 => exact Nat.le_trans i1 i2
  case segSuspGen i1 i2 => exact Nat.le_trans i1 i2
  all_goals first | exact Nat.le_refl _ | assumption
theorem wakes_le {M : Model} {Γ : PySem.Ctx} {p : Pos} {g : Nat} {r : Resume} {s s' : Shared} {res : GenResult} (h : Wakes M Γ p g r s res s') : s.toks ≤ s'.toks := by
  unfold Wakes at h
  split at h
  · exact h.elim
  · split at h
    · obtain ⟨e, s1, h1, _, _, rfl⟩ := h; have q := runs_le h1; exact q
    · rw [h.2]; exact Nat.le_refl _
    · rw [h.2]; exact Nat.le_refl _
  · obtain ⟨e, s1, h1, _, _, rfl⟩ := h; have q := runs_le h1; exact q
  · rw [h.2]; exact Nat.le_refl _
  · rw [h.2]; exact Nat.le_refl _
theorem wp_le {α : Type} {M : Model} {Γ : PySem.Ctx} (n : Nat) (m : Sem α) : ∀ {Q : α → Pos → Shared → Prop} {E : Value → Pos → Shared → Prop} {p : Pos} {s : Shared}, n ≤ s.toks → Sem.wp M Γ m Q E p s →
    Sem.wp M Γ m (fun a p' s' => n ≤ s'.toks ∧ Q a p' s') (fun e p' s' => n ≤ s'.toks ∧ E e p' s') p s := by
  induction m
  all_goals intro Q E p s hn h
  all_goals (first | (rename_i ih) | skip)
  all_goals (try simp only [Sem.wp] at h ⊢)
  all_goals first
    | exact ⟨hn, h⟩
    | exact ih _ hn h
    | exact ih _ (Nat.le_succ_of_le hn) h
    | (obtain ⟨o, h1, h2⟩ := h; exact ⟨o, h1, ih _ hn h2⟩)
    | exact ⟨h.1, ih _ hn h.2⟩
    | (obtain ⟨r, s', h1, h2⟩ := h; exact ⟨r, s', h1, ih _ (Nat.le_trans hn (runs_le h1)) h2⟩)
    | (obtain ⟨r, s', h1, h2⟩ := h; exact ⟨r, s', h1, ih _ (Nat.le_trans hn (wakes_le h1)) h2⟩)
theorem up {α : Type} {M : Model} {A : Around} {m : Sem α} {Q : α → Shared → Prop} {E : Value → Shared → Prop} {s : Shared} (h : wpAny M A m (fun a s' => s.toks ≤ s'.toks → Q a s') (fun e s' => s.toks ≤ s'.toks → E e s') s) : wpAny M A m Q E s := fun Γ p hΓ =>
  Sem.wp_mono M Γ m (fun a p' s' h' => h'.2 h'.1) (fun e p' s' h' => h'.2 h'.1) p s (wp_le s.toks m (Nat.le_refl _) (h Γ p hΓ))
end L2

namespace L2
variable {nk : Nat}
open PySem PySem.Spec PyProof.Rows

/-- a key: an int or a str -/
abbrev Key := Sum Int Str
def keyIs : Key → Value → Bool
  | .inl k, v => Value.isInt k v
  | .inr x, v => Value.isStrOf x v
def keyH (w : World) : Key → Int
  | .inl k => hashInt k
  | .inr x => hashStr w x
theorem keyIs_shape : ∀ {k : Key} {v : Value}, keyIs k v = true → (∃ i t, k = Sum.inl i ∧ v = Value.int i t) ∨ (∃ x t, k = Sum.inr x ∧ v = Value.str x t)
  | .inl i, v, h => by
    obtain ⟨t, e⟩ := Value.isInt_shape (k := i) (v := v) h
    exact .inl ⟨i, t, rfl, e⟩
  | .inr x, v, h => by
    obtain ⟨t, e⟩ := Value.isStrOf_shape (x := x) (v := v) h
    exact .inr ⟨x, t, rfl, e⟩
theorem keyIs_int (i : Int) (t : Tok) : keyIs (.inl i) (.int i t) = true := by simp [keyIs, Value.isInt]
theorem keyIs_str (x : Str) (t : Tok) : keyIs (.inr x) (.str x t) = true := by simp [keyIs, Value.isStrOf]
theorem key_ll (a b : Int) : decide ((Sum.inl a : Key) = Sum.inl b) = (a == b) := by
  by_cases e : a = b
  · subst e; simp
  · have h : ¬ (Sum.inl a : Key) = Sum.inl b := fun q => e (Sum.inl.inj q)
    rw [decide_eq_false h]
    exact (beq_eq_false_iff_ne.mpr e).symm
theorem key_rr (a b : Str) : decide ((Sum.inr a : Key) = Sum.inr b) = decide (a = b) := by
  by_cases e : a = b
  · subst e; simp
  · have h : ¬ (Sum.inr a : Key) = Sum.inr b := fun q => e (Sum.inr.inj q)
    rw [decide_eq_false h, decide_eq_false e]
theorem key_lr (a : Int) (b : Str) : decide ((Sum.inl a : Key) = Sum.inr b) = false := decide_eq_false (fun q => nomatch q)
theorem key_rl (a : Str) (b : Int) : decide ((Sum.inr a : Key) = Sum.inl b) = false := decide_eq_false (fun q => nomatch q)

def mixKind (prog : Program) (w : World) : PySem.KeyKind prog w Key where
  is := keyIs
  hash := keyH w
  inj := fun v a b ha hb => by
    rcases keyIs_shape ha with ⟨i, t, rfl, rfl⟩ | ⟨x, t, rfl, rfl⟩
    · rcases keyIs_shape hb with ⟨j, u, rfl, e⟩ | ⟨y, u, rfl, e⟩
      · injection e with e1 _; rw [e1]
      · exact nomatch e
    · rcases keyIs_shape hb with ⟨j, u, rfl, e⟩ | ⟨y, u, rfl, e⟩
      · exact nomatch e
      · injection e with e1 _; rw [e1]
  byValue := fun k v h => by
    rcases keyIs_shape h with ⟨i, t, rfl, rfl⟩ | ⟨x, t, rfl, rfl⟩ <;> rfl
  pyHash := fun hv h => by
    rcases keyIs_shape hv with ⟨i, t, rfl, rfl⟩ | ⟨x, t, rfl, rfl⟩
    · exact wpAny_pyHash_int h
    · exact wpAny_pyHash_str h
  eqBool := fun hu hv h => by
    rcases keyIs_shape hu with ⟨i, t, rfl, rfl⟩ | ⟨x, t, rfl, rfl⟩
    · rcases keyIs_shape hv with ⟨j, u, rfl, rfl⟩ | ⟨y, u, rfl, rfl⟩
      · rw [key_ll] at h; exact wpAny_eqBool_int h
      · rw [key_lr] at h; exact SeqAt.EqAt.int_str i t y u _ _ _ _ h
    · rcases keyIs_shape hv with ⟨j, u, rfl, rfl⟩ | ⟨y, u, rfl, rfl⟩
      · rw [key_rl] at h; exact SeqAt.EqAt.str_int x t j u _ _ _ _ h
      · rw [key_rr] at h; exact wpAny_eqBool_str h
  «strs» := fun k x t v h => by
    rcases keyIs_shape h with ⟨i, u, rfl, e⟩ | ⟨y, u, rfl, e⟩
    · exact nomatch e
    · injection e with e1 _
      subst e1
      cases v <;> rfl

theorem mixKind_int (prog : Program) (w : World) (i : Int) (t : Tok) : (mixKind prog w).is (.inl i) (.int i t) = true := keyIs_int i t
theorem mixKind_str (prog : Program) (w : World) (x : Str) (t : Tok) : (mixKind prog w).is (.inr x) (.str x t) = true := keyIs_str x t
end L2

namespace L2
variable {nk : Nat}
open PySem PySem.Spec PyProof.Rows

/-- a value, without the heap -/
inductive V where
  | non | bl (b : Bool) | int (i : Int) | str (x : Str) | byt (b : Array UInt8) | flt (b : UInt64) | ref (a : Addr) | ty (n : String)
  deriving DecidableEq

/-- a token of a text that the counter n has passed, where the text is one sign -/
def Tk (n : Nat) (x : Str) : Type := { t : Tok // x.length = 1 → 0 < t ∧ t < n }
instance {n : Nat} {x : Str} : CoeOut (Tk n x) Tok := ⟨fun t => t.1⟩
def Tk.up {n n' : Nat} {x : Str} (h : n ≤ n') (t : Tk n x) : Tk n' x := ⟨t.1, fun e => ⟨(t.2 e).1, Nat.lt_of_lt_of_le (t.2 e).2 h⟩⟩
def RelV (n : Nat) : V → Value → Prop
  | .non, u => u = Value.none
  | .bl b, u => u = Value.bool b
  | .int i, u => ∃ t, u = Value.int i t
  | .str x, u => ∃ t : Tk n x, u = Value.str x t.1
  | .byt b, u => ∃ t, u = Value.bytes b t
  | .flt b, u => ∃ t, u = Value.float b t
  | .ref a, u => u = Value.ref a
  | .ty n, u => u = Value.type n
theorem RelV.up {n n' : Nat} (h : n ≤ n') {v : V} {u : Value} (r : RelV n v u) : RelV n' v u := by
  cases v with
  | str x => obtain ⟨t, e⟩ := r; exact ⟨t.up h, e⟩
  | _ => exact r
abbrev Vals (n : Nat) : List V → List Value → Prop := Paired (RelV n)
theorem Vals.up {n n' : Nat} (h : n ≤ n') : ∀ {xs : List V} {us : List Value}, Vals n xs us → Vals n' xs us
  | _, _, .nil => .nil
  | _, _, .cons r t => .cons (r.up h) (Vals.up h t)
theorem Vals.length {xs : List V} {us : List Value} (r : Vals nk xs us) : xs.length = us.length := Paired.length r
theorem Vals.get : ∀ {xs : List V} {us : List Value} {i : Nat} {x : V}, Vals nk xs us → xs[i]? = some x → ∃ u, us[i]? = some u ∧ RelV nk x u
  | _, _, _, _, .nil, e => by simp at e
  | _, _, 0, _, .cons r _, e => by simp at e; subst e; exact ⟨_, rfl, r⟩
  | _, _, i + 1, x, .cons _ t, e => by
    obtain ⟨u, h1, h2⟩ := Vals.get (i := i) (x := x) t (by simpa using e)
    exact ⟨u, by simpa using h1, h2⟩
theorem Vals.set {x : V} {u : Value} (r : RelV nk x u) : ∀ {xs : List V} {us : List Value} (i : Nat), Vals nk xs us → Vals nk (xs.set i x) (us.set i u)
  | _, _, _, .nil => .nil
  | _, _, 0, .cons _ t => .cons r t
  | _, _, i + 1, .cons q t => .cons q (Vals.set r i t)
theorem Vals.append : ∀ {xs ys : List V} {us ws : List Value}, Vals nk xs us → Vals nk ys ws → Vals nk (xs ++ ys) (us ++ ws)
  | _, _, _, _, .nil, s => s
  | _, _, _, _, .cons r t, s => .cons r (Vals.append t s)
theorem Vals.take : ∀ {xs : List V} {us : List Value} (n : Nat), Vals nk xs us → Vals nk (xs.take n) (us.take n)
  | _, _, 0, _ => .nil
  | _, _, _ + 1, .nil => .nil
  | _, _, n + 1, .cons r t => .cons r (Vals.take n t)
theorem Vals.drop : ∀ {xs : List V} {us : List Value} (n : Nat), Vals nk xs us → Vals nk (xs.drop n) (us.drop n)
  | _, _, 0, r => r
  | _, _, _ + 1, .nil => .nil
  | _, _, n + 1, .cons _ t => Vals.drop n t
def RelO (n : Nat) : Option V → Option Value → Prop
  | some v, some u => RelV n v u
  | none, none => True
  | _, _ => False
theorem RelO.up {n n' : Nat} (h : n ≤ n') : ∀ {o : Option V} {u : Option Value}, RelO n o u → RelO n' o u
  | some _, some _, r => RelV.up h r
  | none, none, _ => trivial
  | none, some _, r => r
  | some _, none, r => r
def KV {κ : Type} (n : Nat) : List (κ × V) → List (κ × Value) → Prop := Paired fun (p : κ × V) (q : κ × Value) => p.1 = q.1 ∧ RelV n p.2 q.2

/-- a key of a dict (00_mix): an int or a text -/
def kV : Key → V
  | .inl i => .int i
  | .inr x => .str x

/-- what stands at a tracked address -/
inductive HO where
  /-- a list -/
  | lst (xs : List V)
  /-- a tuple (never changes) -/
  | tup (xs : List V)
  /-- a dict whose keys are ints and texts; one whose keys are tuples of ints and texts (the empty one is both) -/
  | dK (kvs : List (Key × V)) | dT (kvs : List (List Key × V))
  /-- a set of ints: its members, its size -/
  | set (S : Int → Bool) (n : Nat)
  /-- an instance of the class at C, its dict at dx, its attributes -/
  | ins (C dx : Addr) (fs : List (Str × V))
  /-- the dict of the instance at x -/
  | own (x : Addr)
  /-- the dict of an exception -/
  | xd (fs : List (Str × V))
  /-- a bound method, f of x -/
  | met (f x : Addr)
  /-- a range object lo, lo + 1, .. below hi -/
  | rng (lo hi : Int)
  /-- a thing that is known to the object (the script; a dict while a loop walks it): read, never written while it is so -/
  | frz (o : Obj) (u : HO)
  /-- a code object's table -/
  | tbl (ps : Array Value)
  /-- any other thing, by what is true of its one object (a def of one's own: SetO a S n := HO.ext fun h => ..) -/
  | ext (φ : Heap → Prop)

abbrev Hp := Addr → Option HO
def upd (H : Hp) (a : Addr) (o : HO) : Hp := fun b => if b = a then some o else H b
theorem upd_same {H : Hp} {a : Addr} {o : HO} : upd H a o a = some o := by unfold upd; rw [if_pos rfl]
theorem upd_ne {H : Hp} {a b : Addr} {o : HO} (h : b ≠ a) : upd H a o b = H b := by unfold upd; rw [if_neg h]
theorem ne_of_none {H : Hp} {a b : Addr} {o : HO} (h : H a = some o) (h' : H b = none) : a ≠ b := by
  intro e; subst e; rw [h] at h'; cases h'

section
variable (P : Program) (w : World)
def ObjOk (n : Nat) (H : Hp) (h : Heap) (a : Addr) : HO → Prop
  | .lst xs => xs.length ≤ sizeLine ∧ ∃ (its : List Value) (m : Nat), Vals n xs its ∧ h.get? a = some { cls := .type "list", data := .seq its.toArray m }
  | .tup xs => xs.length ≤ sizeLine ∧ ∃ its : List Value, Vals n xs its ∧ IsTup h a its.toArray
  | .dK kvs => kvs.length ≤ sizeLine ∧ (a == sysModules) = false ∧ ∃ vs, KV n kvs vs ∧ h.DictOf (mixKind P w) a vs
  | .dT kvs => kvs.length ≤ sizeLine ∧ (a == sysModules) = false ∧ ∃ xs : List (List Key × Addr × Value),
      Paired (fun (p : List Key × V) (q : List Key × Addr × Value) => p.1 = q.1 ∧ H q.2.1 = some (.tup (p.1.map kV)) ∧ RelV n p.2 q.2.2) kvs xs ∧
      ∃ o es ep, h.get? a = some o ∧ o.ExactDict ∧ o.data = .dict es ep ∧ es.toList = xs.map (entryOfKey (tupleKind (mixKind P w))) ∧ (xs.map (·.1)).Nodup
  | .set S m => h.SetOf (intKind P w) a S m
  | .ins C dx fs => H dx = some (.own a) ∧ fs.length ≤ 1000 ∧ dx ≠ a ∧ h.get? a = some (PySem.W.instObj C dx) ∧
      ∃ mA, h.Ns1 dx mA ∧ (∀ f, RelO n (fs.lookup f) (mA f)) ∧ PySem.Within mA (fs.map (·.1))
  | .own _ => ∃ o, h.get? a = some o
  | .xd fs => ∃ mA, h.Ns1 a mA ∧ ∀ f, RelO n (fs.lookup f) (mA f)
  | .rng lo hi => ∃ t u v, h.get? a = some { cls := .type "range", data := .fields #[.int lo t, .int hi u, .int 1 v] }
  | .frz o u => h.get? a = some o ∧ ObjOk n H h a u
  | .tbl ps => h.get? a = some { cls := .none, data := .fields ps }
  | .met f x => h.get? a = some (PySem.W.methodObj (.ref f) (.ref x))
  | .ext φ => φ h ∧ (∃ o, h.get? a = some o) ∧ ∀ h1 h2 : Heap, φ h1 → (∀ o, h1.get? a = some o → h2.get? a = some o) → φ h2
/-- the abstract heap is held -/
def HOk (n : Nat) (H : Hp) (h : Heap) : Prop := ∀ a o, H a = some o → ObjOk P w n H h a o
end

section
variable {P : Program} {w : World} {H H' : Hp} {h h' : Heap} {a : Addr} {o : HO}
theorem ObjOk.lt (x : ObjOk P w nk H h a o) : a < h.objs.size := by
  cases o with
  | lst xs => obtain ⟨_, _, _, _, e⟩ := x; exact Heap.lt_size e
  | tup xs => obtain ⟨_, _, _, p⟩ := x; exact p.lt
  | dK kvs => obtain ⟨_, _, _, _, o, _, _, e, _⟩ := x; exact Heap.lt_size e
  | dT kvs => obtain ⟨_, _, _, _, o, _, _, e, _⟩ := x; exact Heap.lt_size e
  | set S n => obtain ⟨o, _, _, _, e, _⟩ := x; exact Heap.lt_size e
  | ins C dx fs => obtain ⟨_, _, _, e, _⟩ := x; exact Heap.lt_size e
  | own y => obtain ⟨_, e⟩ := x; exact Heap.lt_size e
  | xd fs => obtain ⟨_, ⟨_, _, _, e, _⟩, _⟩ := x; exact Heap.lt_size e
  | rng lo hi => obtain ⟨_, _, _, e⟩ := x; exact Heap.lt_size e
  | frz ob u => obtain ⟨e, _⟩ := x; exact Heap.lt_size e
  | tbl ps => exact Heap.lt_size (show h.get? a = some _ from x)
  | met f y => exact Heap.lt_size (show h.get? a = some _ from x)
  | ext φ => obtain ⟨_, ⟨_, e⟩, _⟩ := x; exact Heap.lt_size e
theorem Paired.mapP {α β : Type} {F G : α → β → Prop} : ∀ {l₁ : List α} {l₂ : List β}, Paired F l₁ l₂ → (∀ a b, F a b → G a b) → Paired G l₁ l₂
  | _, _, .nil, _ => .nil
  | _, _, .cons r t, f => .cons (f _ _ r) (Paired.mapP t f)
theorem Paired.imp' {α β : Type} {F G : α → β → Prop} (f : ∀ a b, F a b → G a b) {l₁ : List α} {l₂ : List β} (r : Paired F l₁ l₂) : Paired G l₁ l₂ := Paired.mapP r f
/-- what an object's description leans on: its own object, its own dict, the tuples -/
theorem ObjOk.stay (x : ObjOk P w nk H h a o) (k : ∀ b u, (b = a ∨ H b = some (.own a)) → h.get? b = some u → h'.get? b = some u)
    (ho : ∀ b, H b = some (.own a) → H' b = some (.own a)) (ht : ∀ b xs, H b = some (.tup xs) → H' b = some (.tup xs)) : ObjOk P w nk H' h' a o := by
  induction o with
  | lst xs => obtain ⟨z, its, n, r, e⟩ := x; exact ⟨z, its, n, r, k _ _ (.inl rfl) e⟩
  | tup xs => obtain ⟨z, its, r, ob, e, c⟩ := x; exact ⟨z, its, r, ob, k _ _ (.inl rfl) e, c⟩
  | dK kvs => obtain ⟨z, y, vs, r, ob, es, ep, e, c⟩ := x; exact ⟨z, y, vs, r, ob, es, ep, k _ _ (.inl rfl) e, c⟩
  | dT kvs =>
    obtain ⟨z, y, xs, r, ob, es, ep, e, c⟩ := x
    exact ⟨z, y, xs, Paired.mapP r fun p q z => ⟨z.1, ht _ _ z.2.1, z.2.2⟩, ob, es, ep, k _ _ (.inl rfl) e, c⟩
  | set S n => obtain ⟨ob, es, ep, t, e, c⟩ := x; exact ⟨ob, es, ep, t, k _ _ (.inl rfl) e, c⟩
  | ins C dx fs =>
    obtain ⟨d, z, ne, e, mA, ⟨od, es, ep, e2, c⟩, r⟩ := x
    exact ⟨ho _ d, z, ne, k _ _ (.inl rfl) e, mA, ⟨od, es, ep, k _ _ (.inr d) e2, c⟩, r⟩
  | own y => obtain ⟨ob, e⟩ := x; exact ⟨ob, k _ _ (.inl rfl) e⟩
  | xd fs => obtain ⟨mA, ⟨od, es, ep, e, c⟩, r⟩ := x; exact ⟨mA, ⟨od, es, ep, k _ _ (.inl rfl) e, c⟩, r⟩
  | rng lo hi => obtain ⟨t, u, v, e⟩ := x; exact ⟨t, u, v, k _ _ (.inl rfl) e⟩
  | frz ob u ih => obtain ⟨e, q⟩ := x; exact ⟨k _ _ (.inl rfl) e, ih q⟩
  | tbl ps =>
    have e : h.get? a = some { cls := .none, data := .fields ps } := x
    show h'.get? a = some { cls := .none, data := .fields ps }
    exact k a _ (.inl rfl) e
  | met f y =>
    have e : h.get? a = some (PySem.W.methodObj (.ref f) (.ref y)) := x
    show h'.get? a = some (PySem.W.methodObj (.ref f) (.ref y))
    exact k a _ (.inl rfl) e
  | ext φ => obtain ⟨p, ⟨o, e⟩, st⟩ := x; exact ⟨st _ _ p fun o q => k _ _ (.inl rfl) q, ⟨o, k _ _ (.inl rfl) e⟩, st⟩
theorem Paired.upR {n n' : Nat} (h : n ≤ n') {κ : Type} {l₁ : List (κ × V)} {l₂ : List (κ × Value)} (r : KV n l₁ l₂) : KV n' l₁ l₂ := Paired.mapP r fun _ _ z => ⟨z.1, z.2.up h⟩
theorem ObjOk.up {n' : Nat} (hn : nk ≤ n') (x : ObjOk P w nk H h a o) : ObjOk P w n' H h a o := by
  induction o with
  | lst xs => obtain ⟨z, its, n, r, e⟩ := x; exact ⟨z, its, n, r.up hn, e⟩
  | tup xs => obtain ⟨z, its, r, ob⟩ := x; exact ⟨z, its, r.up hn, ob⟩
  | dK kvs => obtain ⟨z, y, vs, r, ob⟩ := x; exact ⟨z, y, vs, Paired.upR hn r, ob⟩
  | dT kvs => obtain ⟨z, y, xs, r, ob⟩ := x; exact ⟨z, y, xs, Paired.mapP r fun p q z => ⟨z.1, z.2.1, z.2.2.up hn⟩, ob⟩
  | ins C dx fs => obtain ⟨d, z, ne, e, mA, c, r, q⟩ := x; exact ⟨d, z, ne, e, mA, c, fun f => (r f).up hn, q⟩
  | xd fs => obtain ⟨mA, c, r⟩ := x; exact ⟨mA, c, fun f => (r f).up hn⟩
  | frz ob u ih => obtain ⟨e, q⟩ := x; exact ⟨e, ih q⟩
  | _ => exact x
theorem HOk.up {n' : Nat} (hn : nk ≤ n') (x : HOk P w nk H h) : HOk P w n' H h := fun a o e => (x a o e).up hn
theorem HOk.lt (x : HOk P w nk H h) (e : H a = some o) : a < h.objs.size := (x a o e).lt
theorem HOk.fresh (x : HOk P w nk H h) (e : h.objs.size ≤ a) : H a = none := by
  cases q : H a with
  | none => rfl
  | some u => exact absurd (Nat.lt_of_lt_of_le (x.lt q) e) (Nat.lt_irrefl _)
/-- every object of the heap is kept -/
theorem HOk.kept (x : HOk P w nk H h) (k : ∀ b u, h.get? b = some u → h'.get? b = some u) : HOk P w nk H h' := fun a o e =>
  (x a o e).stay (fun b u _ q => k b u q) (fun _ q => q) fun _ _ q => q
/-- a new object is laid and tracked -/
theorem HOk.laid (x : HOk P w nk H h) (k : ∀ b u, h.get? b = some u → h'.get? b = some u) (hp : h.objs.size ≤ a) (new : ObjOk P w nk (upd H a o) h' a o) : HOk P w nk (upd H a o) h' := fun b u e => by
  have hn := x.fresh hp
  by_cases hb : b = a
  · subst hb; rw [upd_same] at e; cases e; exact new
  · rw [upd_ne hb] at e
    exact (x b u e).stay (fun c v _ q => k c v q) (fun c q => by rw [upd_ne (ne_of_none q hn)]; exact q) fun c xs q => by rw [upd_ne (ne_of_none q hn)]; exact q
end

/-- what may be read as u: it is u, or a known u -/
def Rd (H : Hp) (a : Addr) (u : HO) : Prop := H a = some u ∨ ∃ o, H a = some (.frz o u)
theorem Rd.of {H : Hp} {a : Addr} {u : HO} (h : H a = some u) : Rd H a u := .inl h
theorem Rd.ok {P : Program} {w : World} {H : Hp} {h : Heap} {a : Addr} {u : HO} (r : Rd H a u) (x : HOk P w nk H h) : ObjOk P w nk H h a u := by
  rcases r with r | ⟨o, r⟩
  · exact x a u r
  · obtain ⟨_, q⟩ := x a _ r
    exact q
/-- what may be written -/
def Mut : Option HO → Prop
  | some (.lst _) => True
  | some (.dK _) => True
  | some (.dT _) => True
  | some (.set _ _) => True
  | some (.ins _ _ _) => True
  | some (.ext _) => True
  | _ => False
section
variable {P : Program} {w : World} {H : Hp} {h h' : Heap} {x e : Addr} {o' : HO}
/-- the object at e is changed: x itself, or the dict of the instance x -/
theorem HOk.write (ok : HOk P w nk H h) (mu : Mut (H x)) (he : e = x ∨ H e = some (.own x)) (k : ∀ b u, b ≠ e → h.get? b = some u → h'.get? b = some u) (heo : ∃ u, h'.get? e = some u)
    (new : ObjOk P w nk (upd H x o') h' x o') : HOk P w nk (upd H x o') h' := fun b u q => by
  have nown : ∀ c y, H c = some (.own y) → c ≠ x := fun c y r z => by subst z; rw [r] at mu; exact mu
  have ntup : ∀ c xs, H c = some (.tup xs) → c ≠ x := fun c xs r z => by subst z; rw [r] at mu; exact mu
  by_cases hb : b = x
  · subst hb; rw [upd_same] at q; cases q; exact new
  · rw [upd_ne hb] at q
    by_cases hbe : b = e
    · have q' : H b = some (.own x) := by
        rcases he with z | z
        · exact absurd (hbe.trans z) hb
        · rw [hbe]; exact z
      rw [q] at q'; cases q'
      obtain ⟨v, hv⟩ := heo
      exact ⟨v, by rw [hbe]; exact hv⟩
    · refine (ok b u q).stay (fun c v hc r => k c v ?_ r) (fun c r => by rw [upd_ne (nown c b r)]; exact r) fun c xs r => by rw [upd_ne (ntup c xs r)]; exact r
      rcases hc with rfl | hc
      · exact hbe
      · rintro rfl
        rcases he with z | z
        · exact nown c b hc z
        · rw [hc] at z; cases z; exact hb rfl
end

structure Un (fs ex : List Addr) (H H' : Hp) (h h' : Heap) : Prop where
  keep : ∀ b o, h.get? b = some o → H b = none → b ∉ fs → b ∉ ex → h'.get? b = some o
  slot : ∀ b o, h.get? b = some o → H b = none → b ∈ fs → b ∉ ex → ∃ sl, h'.get? b = some { o with slots := sl }
  free : ∀ b o, h.get? b = some o → H b = none → b ∉ ex → H' b = none
  there : ∀ b o, h.get? b = some o → b ∉ ex → ∃ o', h'.get? b = some o'
  tups : ∀ b xs, H b = some (.tup xs) → H' b = some (.tup xs)
  frzs : ∀ b o u, H b = some (.frz o u) → H' b = some (.frz o u)
  tbls : ∀ b ps, H b = some (.tbl ps) → ∃ more, H' b = some (.tbl (ps ++ more))
section
variable {fs fs' ex ex' : List Addr} {H H1 H2 : Hp} {h h1 h2 h' : Heap} {a x e : Addr} {o : HO}
theorem Un.any (u : Un fs ex H H1 h h1) {b : Addr} {ob : Obj} (q : h.get? b = some ob) (n : H b = none) (hx : b ∉ ex) : ∃ sl, h1.get? b = some { ob with slots := sl } := by
  by_cases hb : b ∈ fs
  · exact u.slot b ob q n hb hx
  · exact ⟨ob.slots, u.keep b ob q n hb hx⟩
theorem Un.trans (a : Un fs ex H H1 h h1) (b : Un fs ex H1 H2 h1 h2) : Un fs ex H H2 h h2 where
  keep := fun c ob q n hc hx => b.keep c ob (a.keep c ob q n hc hx) (a.free c ob q n hx) hc hx
  slot := fun c ob q n hc hx => by
    obtain ⟨sl, e1⟩ := a.slot c ob q n hc hx
    obtain ⟨sl', e2⟩ := b.slot c _ e1 (a.free c ob q n hx) hc hx
    exact ⟨sl', e2⟩
  free := fun c ob q n hx => by
    obtain ⟨o', e1⟩ := a.there c ob q hx
    exact b.free c o' e1 (a.free c ob q n hx) hx
  there := fun c ob q hx => by
    obtain ⟨o', e1⟩ := a.there c ob q hx
    exact b.there c o' e1 hx
  tups := fun c xs q => b.tups c xs (a.tups c xs q)
  frzs := fun c ob xs q => b.frzs c ob xs (a.frzs c ob xs q)
  tbls := fun c ps q => by
    obtain ⟨m1, e1⟩ := a.tbls c ps q
    obtain ⟨m2, e2⟩ := b.tbls c _ e1
    exact ⟨m1 ++ m2, by rw [e2, Array.append_assoc]⟩
theorem Un.kept (k : ∀ b u, h.get? b = some u → h'.get? b = some u) : Un fs ex H H h h' :=
  ⟨fun b ob q _ _ _ => k b ob q, fun b ob q _ _ _ => ⟨ob.slots, k b ob q⟩, fun _ _ _ n _ => n, fun b ob q _ => ⟨ob, k b ob q⟩, fun _ _ q => q, fun _ _ _ q => q, fun _ ps q => ⟨#[], by rw [q]; simp⟩⟩
theorem Un.refl : Un fs ex H H h h := Un.kept fun _ _ q => q
theorem Un.laid (k : ∀ b u, h.get? b = some u → h'.get? b = some u) (hp : h.objs.size ≤ a) (hn : H a = none) : Un fs ex H (upd H a o) h h' where
  keep := fun b u q _ _ _ => k b u q
  slot := fun b u q _ _ _ => ⟨u.slots, k b u q⟩
  free := fun b u q n _ => by rw [upd_ne (Nat.ne_of_lt (Nat.lt_of_lt_of_le (Heap.lt_size q) hp))]; exact n
  there := fun b u q _ => ⟨u, k b u q⟩
  tups := fun b xs q => by rw [upd_ne (ne_of_none q hn)]; exact q
  frzs := fun b u xs q => by rw [upd_ne (ne_of_none q hn)]; exact q
  tbls := fun b ps q => ⟨#[], by rw [upd_ne (ne_of_none q hn), q]; simp⟩
theorem Un.write (mu : Mut (H x)) (he : e = x ∨ H e = some (.own x)) (k : ∀ b u, b ≠ e → h.get? b = some u → h'.get? b = some u) (heo : ∃ u, h'.get? e = some u) : Un fs ex H (upd H x o) h h' := by
  have hx : ∀ b, H b = none → b ≠ x := fun b n z => by subst z; rw [n] at mu; exact mu
  have hb : ∀ b, H b = none → b ≠ e := fun b n z => by
    subst z
    rcases he with r | r
    · exact hx b n r
    · rw [n] at r; cases r
  have hm : ∀ b u, H b = some u → ¬ Mut (some u) → b ≠ x := fun b u q nm z => by subst z; rw [q] at mu; exact nm mu
  refine ⟨fun b u q n _ _ => k b u (hb b n) q, fun b u q n _ _ => ⟨u.slots, k b u (hb b n) q⟩, fun b u q n _ => by rw [upd_ne (hx b n)]; exact n, fun b u q _ => ?_,
    fun b xs q => by rw [upd_ne (hm b _ q fun z => z)]; exact q, fun b u xs q => by rw [upd_ne (hm b _ q fun z => z)]; exact q, fun b ps q => ⟨#[], by rw [upd_ne (hm b _ q fun z => z), q]; simp⟩⟩
  by_cases hbe : b = e
  · subst hbe; exact heo
  · exact ⟨u, k b u hbe q⟩
theorem Un.mono (u : Un fs ex H H1 h h1) (hs : ∀ b ∈ fs, b ∈ fs') (hx : ∀ b ∈ ex, b ∈ ex') : Un fs' ex' H H1 h h1 :=
  ⟨fun b ob q n hb he => u.keep b ob q n (fun z => hb (hs b z)) fun z => he (hx b z), fun _ _ q n _ he => u.any q n fun z => he (hx _ z), fun b ob q n he => u.free b ob q n fun z => he (hx b z), fun b ob q he => u.there b ob q fun z => he (hx b z), u.tups, u.frzs, u.tbls⟩
end

def trk (h : Heap) (H : Hp) : List Addr := (List.range h.objs.size).filter fun a => (H a).isSome
def hidT (h : Heap) (H : Hp) : Heap := PySem.W.hideAll h (trk h H)
theorem hidT_size (h : Heap) (H : Hp) : (hidT h H).objs.size = h.objs.size := PySem.W.hideAll_size _ _
theorem hidT_get {h : Heap} {H : Hp} {b : Addr} {o : Obj} (e : h.get? b = some o) (n : H b = none) : (hidT h H).get? b = some o :=
  PySem.W.hideAll_get _ e fun hm => by
    have q : (H b).isSome = true := (List.mem_filter.mp hm).2
    rw [n] at q; simp at q
theorem of_hidT {h : Heap} {H : Hp} {b : Addr} {o : Obj} (e : (hidT h H).get? b = some o) : h.get? b = some o ∧ H b = none := by
  have e' : h.get? b = some o := PySem.W.of_hideAll (trk h H) e
  refine ⟨e', ?_⟩
  cases q : H b with
  | none => rfl
  | some x =>
    have hm : b ∈ trk h H := List.mem_filter.mpr ⟨List.mem_range.mpr (Heap.lt_size e'), by simp [q]⟩
    have z : (hidT h H).get? b = none := PySem.W.hideAll_none (trk h H) hm
    rw [z] at e; cases e

def allNews (g h : Heap) (L : Addr) : List (Addr × Obj) := (List.range h.objs.size).filterMap fun a => if a = L ∨ (g.get? a).isSome = true then none else (h.get? a).map fun o => (a, o)
def rest (g h : Heap) (L d : Addr) : List (Addr × Obj) := (allNews g h L).filter fun p => decide (p.1 ≠ d)
end L2

namespace L2
variable {nk : Nat}
open PySem PySem.Spec PyProof.Rows

/-- the module's facts, over the base: the heap at the law's entry without what is tracked there -/
structure Mod (K : PySem.W.Frag) (mg : Str → Option Value) (base : Heap) : Prop where
  kin : K.In base
  glob : base.Ns mainGlobals mg
  blt : ∃ mb, base.Ns builtinsNs mb ∧ ∀ x : Str, x ≠ "__name__" → mb x = bootBuiltins x
  nolimit : base.NoLimit

/-- the context: a def's body (or a comprehension's block) running. base: fixed through the whole law; s₀, H₀: the entry; outer: the frames whose slots others may change (a def's callers); stack: all frames that run;
   ex: iterators that were made ahead of the entry and are walked here (a comprehension's); fn: the names whose cells were made at the entry (a def: all; a comprehension's block: its own); calm: not within an except suite; pn: pins that every state bears; xe: what is wanted of an exception that leaves the code -/
structure Cx where
  prog : Program
  w : World
  K : PySem.W.Frag
  mg : Str → Option Value
  base : Heap
  A : Around
  N : List Str
  s₀ : Shared
  H₀ : Hp
  env : Env
  outer : List Env
  stack : List Env
  ex : List Addr
  fn : Str → Bool
  calm : Bool
  pn : List (Addr × Obj)
  xe : Value → Shared → Prop
/-- the callers' frames -/
def frs (l : List Env) : List Addr := l.filterMap (·.frame)
abbrev Cx.fs (X : Cx) : List Addr := frs X.outer

def Vis (sc : Scope) (x : Str) : Prop := sc.names.lookup x = some .local ∨ sc.names.lookup x = some .cell ∨ sc.names.lookup x = some .free
def Loc (sc : Scope) (x : Str) : Prop := sc.names.lookup x = some .local ∨ sc.names.lookup x = some .cell
def Look (env : Env) (h : Heap) (m : Str → Option Value) (x : Str) (u : Value) : Prop :=
  (env.kindOf x = some .local ∧ m x = some u) ∨ ((env.kindOf x = some .cell ∨ env.kindOf x = some .free) ∧ ∃ c, env.cells.lookup x = some c ∧ h.IsCell c (some u))

structure Cx.Ok (X : Cx) : Prop where
  mod : Mod X.K X.mg X.base
  kind : X.env.scope.kind = .function
  glob : X.env.globals = mainGlobals
  blt : X.env.builtins = builtinsNs
  above : X.s₀.heap.objs.size ≤ X.env.locals
  inj : ∀ x y c, X.env.cells.lookup x = some c → X.env.cells.lookup y = some c → x = y
  has : ∀ x, (X.env.kindOf x = some .cell ∨ X.env.kindOf x = some .free) → ∃ c, X.env.cells.lookup x = some c
  cab : ∀ x c, X.fn x = true → X.env.cells.lookup x = some c → X.s₀.heap.objs.size ≤ c
  hd : X.calm = true → X.A.handled = none
  frames : X.A.frames = some X.stack
  stk : X.stack = X.outer ∨ (X.stack = X.env :: X.outer ∧ X.env.frame = some X.env.locals)
  exf : ∀ b ∈ X.ex, b ≠ X.env.locals ∧ ∀ x c, X.env.cells.lookup x = some c → c ≠ b
  bs : ∀ b o, X.base.get? b = some o → X.s₀.heap.get? b = some o ∧ X.H₀ b = none
  bsz : X.base.objs.size ≤ X.s₀.heap.objs.size
  noex : ∀ b o, X.base.get? b = some o → b ∉ X.ex
  exfs : ∀ b ∈ X.ex, b ∉ X.fs
  funs : X.s₀.heap.FunFrames X.base X.outer
  frf : ∀ b ∈ X.fs, X.H₀ b = none

structure Inv (X : Cx) (pins : List (Addr × Obj)) (σ : List (Option V)) (H : Hp) (s : Shared) : Prop where
  ok : X.Ok
  os : s.os = X.s₀.os
  bare : AllBare s.gens
  base : Un X.fs X.ex X.H₀ H X.s₀.heap s.heap
  loc : ∃ m, s.heap.Ns X.env.locals m ∧ ∀ (i : Nat) (x : Str) (v : V), X.N[i]? = some x → σ[i]? = some (some v) → Vis X.env.scope x → ∃ u, RelV s.toks v u ∧ Look X.env s.heap m x u
  cell : ∀ x c, X.env.cells.lookup x = some c → ∃ v, s.heap.IsCell c v
  free : H X.env.locals = none
  freeC : ∀ x c, X.env.cells.lookup x = some c → H c = none
  pin : ∀ p ∈ X.pn ++ pins, s.heap.get? p.1 = some p.2 ∧ H p.1 = none ∧ p.1 ≠ X.env.locals ∧ p.1 ∉ X.fs ∧ ∀ v, p.2.data ≠ .cell v
  hok : HOk X.prog X.w s.toks H s.heap
  len : σ.length = X.N.length
  pos : 0 < s.toks
  tk : X.s₀.toks ≤ s.toks

section
variable {X : Cx} {pins : List (Addr × Obj)} {σ : List (Option V)} {H H' : Hp} {s : Shared} {h' : Heap}

theorem Cx.Ok.nofr (ok : X.Ok) {b : Addr} {o : Obj} (e : X.base.get? b = some o) : b ∉ X.fs := fun hb => by
  have := (ok.funs.mem hb).1
  rw [e] at this; cases this
theorem Inv.bs (I : Inv X pins σ H s) : ∀ b o, X.base.get? b = some o → s.heap.get? b = some o ∧ H b = none := fun b o e =>
  ⟨I.base.keep b o (I.ok.bs b o e).1 (I.ok.bs b o e).2 (I.ok.nofr e) (I.ok.noex b o e), I.base.free b o (I.ok.bs b o e).1 (I.ok.bs b o e).2 (I.ok.noex b o e)⟩
theorem Inv.bk (I : Inv X pins σ H s) : ∀ b o, X.base.get? b = some o → s.heap.get? b = some o := fun b o e => (I.bs b o e).1
theorem Inv.mod (I : Inv X pins σ H s) : Mod X.K X.mg X.base := I.ok.mod
theorem Inv.kIn (I : Inv X pins σ H s) : X.K.In s.heap := I.ok.mod.kin.keeps I.bk
theorem Inv.nolimit (I : Inv X pins σ H s) : s.heap.NoLimit := I.ok.mod.nolimit.keeps I.bk
/-- the frame over the base: for OpenK's rules (K.In X.base is I.mod.kin) -/
theorem Inv.fr (I : Inv X pins σ H s) : ∃ m, Fr X.base X.env.locals s.heap m :=
  let ⟨m, hn, _⟩ := I.loc
  ⟨m, hn, I.bk, Nat.le_trans I.ok.bsz I.ok.above⟩
theorem Inv.lt (I : Inv X pins σ H s) : X.env.locals < s.heap.objs.size := let ⟨_, hn, _⟩ := I.loc; hn.lt
theorem Inv.sz (I : Inv X pins σ H s) : X.s₀.heap.objs.size ≤ s.heap.objs.size := Nat.le_trans I.ok.above (Nat.le_of_lt I.lt)
theorem Inv.nofs (I : Inv X pins σ H s) {a : Addr} (h : s.heap.objs.size ≤ a) : a ∉ X.fs := fun hb => by
  obtain ⟨_, o, ho, _⟩ := I.ok.funs.mem hb
  exact absurd (Nat.lt_of_lt_of_le (Heap.lt_size ho) (Nat.le_trans I.sz h)) (Nat.lt_irrefl _)
theorem Inv.cne (I : Inv X pins σ H s) : ∀ x c, X.env.cells.lookup x = some c → c ≠ X.env.locals := fun x c e z => by
  obtain ⟨v, o, ho, hd⟩ := I.cell x c e
  obtain ⟨m, ⟨o', es, ep, ho', hd', _⟩, _⟩ := I.loc
  rw [z, ho'] at ho; cases ho; rw [hd'] at hd; cases hd
theorem Inv.funs (I : Inv X pins σ H s) : s.heap.FunFrames X.base X.outer := by
  have all : ∀ (l : List Env), (∀ b ∈ frs l, b ∈ X.fs) → X.s₀.heap.FunFrames X.base l → s.heap.FunFrames X.base l := by
    intro l
    induction l with
    | nil => intro _ _; trivial
    | cons env r ih =>
      intro hs hl
      obtain ⟨hk, ⟨L, o, hf, hn, ho, hd⟩, hr⟩ := hl
      have hL : L ∈ X.fs := hs L (by unfold frs; rw [List.filterMap_cons, hf]; exact List.mem_cons_self)
      obtain ⟨sl, e⟩ := I.base.slot L o ho (I.ok.frf L hL) hL fun z => I.ok.exfs L z hL
      exact ⟨hk, ⟨L, _, hf, hn, e, hd⟩, ih (fun b hb => hs b (by unfold frs; rw [List.filterMap_cons, hf]; exact List.mem_cons_of_mem _ hb)) hr⟩
  exact all X.outer (fun _ hb => hb) I.ok.funs

/-- the frames that run, for a call -/
theorem Inv.stack (I : Inv X pins σ H s) : s.heap.FunFrames X.base X.stack := by
  rcases I.ok.stk with e | ⟨e, hf⟩
  · rw [e]; exact I.funs
  · rw [e]
    obtain ⟨m, hn, _⟩ := I.loc
    refine .cons (by rw [I.ok.kind]; decide) hf hn ?_ I.funs
    exact Heap.get?_none_of_le (Nat.le_trans I.ok.bsz I.ok.above)
theorem Inv.stkSub (I : Inv X pins σ H s) : ∀ b ∈ frs X.stack, b ∈ X.env.locals :: X.fs := fun b hb => by
  rcases I.ok.stk with e | ⟨e, hf⟩
  · rw [e] at hb; exact List.mem_cons_of_mem _ hb
  · rw [e] at hb
    unfold frs at hb
    rw [List.filterMap_cons, hf] at hb
    exact hb
theorem Inv.stkFree (I : Inv X pins σ H s) : ∀ b ∈ frs X.stack, H b = none := fun b hb => by
  rcases List.mem_cons.mp (I.stkSub b hb) with e | hb
  · rw [e]; exact I.free
  · obtain ⟨_, o, ho, _⟩ := I.ok.funs.mem hb
    exact I.base.free b o ho (I.ok.frf b hb) fun z => I.ok.exfs b z hb

/-- THE STEP: the untracked objects but the frame and the records at ch are kept (the callers' frames up to slots), the frame's map is kept, the new abstract heap is held -/
theorem Inv.step {g' : Array GenState} {t' : Nat} {d' : Drawn} {ch : List Addr} (I : Inv X pins σ H s)
    (hch : ∀ b ∈ ch, (b ∈ X.ex ∨ X.s₀.heap.objs.size ≤ b) ∧ b ≠ X.env.locals ∧ (∀ x c, X.env.cells.lookup x = some c → c ≠ b) ∧ ∀ p ∈ X.pn ++ pins, p.1 ≠ b)
    (keep : ∀ b o, b ≠ X.env.locals → b ∉ X.fs → b ∉ ch → s.heap.get? b = some o → H b = none → h'.get? b = some o)
    (slot : ∀ b o, b ≠ X.env.locals → b ∈ X.fs → b ∉ ch → s.heap.get? b = some o → H b = none → ∃ sl, h'.get? b = some { o with slots := sl }) (free : ∀ b o, b ∉ ch → s.heap.get? b = some o → H b = none → H' b = none)
    (there : ∀ b o, b ∉ ch → s.heap.get? b = some o → ∃ o', h'.get? b = some o')
    (tups : ∀ b xs, H b = some (.tup xs) → H' b = some (.tup xs)) (frzs : ∀ b o u, H b = some (.frz o u) → H' b = some (.frz o u)) (tbls : ∀ b ps, H b = some (.tbl ps) → ∃ more, H' b = some (.tbl (ps ++ more)))
    (ns : ∀ m, s.heap.Ns X.env.locals m → h'.Ns X.env.locals m) (hok : HOk X.prog X.w t' H' h') (hg : AllBare g') (hk : s.toks ≤ t') :
    Inv X pins σ H' { s with heap := h', gens := g', drawn := d', toks := t' } := by
  have neL : ∀ b o, X.s₀.heap.get? b = some o → b ≠ X.env.locals := fun b o e => Nat.ne_of_lt (Nat.lt_of_lt_of_le (Heap.lt_size e) I.ok.above)
  have neC : ∀ b o, X.s₀.heap.get? b = some o → b ∉ X.ex → b ∉ ch := fun b o e hx hb => by
    rcases (hch b hb).1 with z | z
    · exact hx z
    · exact absurd (Nat.lt_of_lt_of_le (Heap.lt_size e) z) (Nat.lt_irrefl _)
  have cellK : ∀ x c, X.env.cells.lookup x = some c → ∀ v, s.heap.IsCell c v → h'.IsCell c v := fun x c e v ⟨o, ho, hd⟩ => by
    have nch : c ∉ ch := fun z => (hch c z).2.2.1 x c e rfl
    by_cases hc : c ∈ X.fs
    · obtain ⟨sl, q⟩ := slot c o (I.cne x c e) hc nch ho (I.freeC x c e)
      exact ⟨_, q, hd⟩
    · exact ⟨o, keep c o (I.cne x c e) hc nch ho (I.freeC x c e), hd⟩
  refine ⟨I.ok, I.os, hg, ⟨fun b o e n hb hx => ?_, fun b o e n hb hx => ?_, fun b o e n hx => ?_, fun b o e hx => ?_, fun b xs e => tups b xs (I.base.tups b xs e), fun b o xs e => frzs b o xs (I.base.frzs b o xs e), fun b ps e => ?_⟩, ?_, fun x c e => ?_, ?_, fun x c e => ?_, fun p hp => ?_, hok, I.len, Nat.lt_of_lt_of_le I.pos hk, Nat.le_trans I.tk hk⟩
  · exact keep b o (neL b o e) hb (neC b o e hx) (I.base.keep b o e n hb hx) (I.base.free b o e n hx)
  · obtain ⟨sl, e1⟩ := I.base.slot b o e n hb hx
    obtain ⟨sl', e2⟩ := slot b _ (neL b o e) hb (neC b o e hx) e1 (I.base.free b o e n hx)
    exact ⟨sl', e2⟩
  · obtain ⟨o', e1⟩ := I.base.there b o e hx
    exact free b o' (neC b o e hx) e1 (I.base.free b o e n hx)
  · obtain ⟨o', e1⟩ := I.base.there b o e hx
    exact there b o' (neC b o e hx) e1
  · obtain ⟨m1, e1⟩ := I.base.tbls b ps e
    obtain ⟨m2, e2⟩ := tbls b _ e1
    exact ⟨m1 ++ m2, by rw [e2, Array.append_assoc]⟩
  · obtain ⟨m, hn, hl⟩ := I.loc
    refine ⟨m, ns m hn, fun i x v e1 e2 e3 => ?_⟩
    obtain ⟨u, r, l⟩ := hl i x v e1 e2 e3
    refine ⟨u, r.up hk, ?_⟩
    rcases l with l | ⟨k, c, e, z⟩
    · exact .inl l
    · exact .inr ⟨k, c, e, cellK x c e _ z⟩
  · obtain ⟨v, z⟩ := I.cell x c e
    exact ⟨v, cellK x c e v z⟩
  · obtain ⟨m, ⟨o, _, _, ho, _⟩, _⟩ := I.loc
    exact free _ o (fun z => (hch _ z).2.1 rfl) ho I.free
  · obtain ⟨v, o, ho, hd⟩ := I.cell x c e
    exact free c o (fun z => (hch c z).2.2.1 x c e rfl) ho (I.freeC x c e)
  · obtain ⟨e, n, ne, nf, d⟩ := I.pin p hp
    have nch : p.1 ∉ ch := fun z => (hch p.1 z).2.2.2 p hp rfl
    exact ⟨keep p.1 p.2 ne nf nch e n, free p.1 p.2 nch e n, ne, nf, d⟩
/-- .. where the frame's own object is kept too -/
theorem Inv.un {t' : Nat} (I : Inv X pins σ H s) (u : Un X.fs [] H H' s.heap h') (hok : HOk X.prog X.w t' H' h') (hk : s.toks ≤ t' := by first | exact Nat.le_refl _ | exact Nat.le_succ _ | assumption | omega) : Inv X pins σ H' { s with heap := h', toks := t' } := by
  obtain ⟨m, ⟨o, es, ep, ho, r⟩, _⟩ := id I.loc
  obtain ⟨sl, hL⟩ := u.any ho I.free (by simp)
  exact I.step (g' := s.gens) (d' := s.drawn) (ch := []) (fun _ z => nomatch z) (fun b o _ hb _ e n => u.keep b o e n hb (by simp)) (fun b o _ hb _ e n => u.slot b o e n hb (by simp)) (fun b o _ e n => u.free b o e n (by simp)) (fun b o _ e => u.there b o e (by simp)) u.tups u.frzs u.tbls (fun m' hm => by
    obtain ⟨o', es', ep', ho', r'⟩ := hm
    rw [ho] at ho'; cases ho'
    exact ⟨_, es', ep', hL, r'⟩) hok I.bare hk
/-- behind a call (or a comprehension's block): the slots of this frame may have changed too, the records at ch may have turned -/
theorem Inv.call {g' : Array GenState} {t' : Nat} {d' : Drawn} {ch : List Addr} (I : Inv X pins σ H s) (u : Un (frs X.stack) ch H H' s.heap h') (hok : HOk X.prog X.w t' H' h') (hg : AllBare g')
    (hch : ∀ b ∈ ch, (b ∈ X.ex ∨ X.s₀.heap.objs.size ≤ b) ∧ b ≠ X.env.locals ∧ (∀ x c, X.env.cells.lookup x = some c → c ≠ b) ∧ ∀ p ∈ X.pn ++ pins, p.1 ≠ b) (hk : s.toks ≤ t') :
    Inv X pins σ H' { s with heap := h', gens := g', drawn := d', toks := t' } := by
  obtain ⟨m, ⟨o, es, ep, ho, r⟩, _⟩ := id I.loc
  obtain ⟨sl, hL⟩ := u.any ho I.free fun z => (hch _ z).2.1 rfl
  exact I.step (ch := ch) hch (fun b o hL hb hc e n => u.keep b o e n (fun z => (List.mem_cons.mp (I.stkSub b z)).elim hL hb) hc) (fun b o _ _ hc e n => u.any e n hc) (fun b o hc e n => u.free b o e n hc) (fun b o hc e => u.there b o e hc) u.tups u.frzs u.tbls (fun m' hm => by
    obtain ⟨o', es', ep', ho', r'⟩ := hm
    rw [ho] at ho'; cases ho'
    exact ⟨_, es', ep', hL, r'⟩) hok hg hk
/-- an untracked record of ours (an iterator) has turned -/
theorem Inv.turned {t' : Nat} {it : Addr} (I : Inv X pins σ H s) (k : ∀ b o, b ≠ it → s.heap.get? b = some o → h'.get? b = some o) (hn : H it = none) (hL : it ≠ X.env.locals)
    (h1 : it ∈ X.ex ∨ X.s₀.heap.objs.size ≤ it) (h2 : ∀ x c, X.env.cells.lookup x = some c → c ≠ it) (h3 : ∀ p ∈ X.pn ++ pins, p.1 ≠ it) (hk : s.toks ≤ t' := by first | exact Nat.le_refl _ | exact Nat.le_succ _ | assumption | omega) : Inv X pins σ H { s with heap := h', toks := t' } := by
  have nit : ∀ b u, H b = some u → b ≠ it := fun b u e z => by rw [z, hn] at e; cases e
  refine I.step (g' := s.gens) (d' := s.drawn) (ch := [it]) (fun b hb => ?_) (fun b o _ _ hc e _ => k b o (fun z => hc (by simp [z])) e) (fun b o _ _ hc e _ => ⟨o.slots, k b o (fun z => hc (by simp [z])) e⟩) (fun _ _ _ _ n => n)
    (fun b o hc e => ⟨o, k b o (fun z => hc (by simp [z])) e⟩) (fun _ _ e => e) (fun _ _ _ e => e) (fun b ps e => ⟨#[], by rw [e]; simp⟩) (fun m hm => ?_) (fun b u e => ?_) I.bare hk
  · have e : b = it := by simpa using hb
    subst e
    exact ⟨h1, hL, h2, h3⟩
  · obtain ⟨o, es, ep, ho, r⟩ := hm
    exact ⟨o, es, ep, k _ o (Ne.symm hL) ho, r⟩
  · refine ((I.hok b u e).up hk).stay (fun c v hc q => k c v ?_ q) (fun _ q => q) fun _ _ q => q
    rcases hc with z | z
    · rw [z]; exact nit b u e
    · exact nit c _ z
theorem Inv.tok (I : Inv X pins σ H s) (t : Nat) (hk : s.toks ≤ t := by first | exact Nat.le_refl _ | exact Nat.le_succ _ | assumption | omega) : Inv X pins σ H { s with toks := t } := I.un (h' := s.heap) (t' := t) Un.refl (I.hok.up hk) hk
/-- all objects kept -/
theorem Inv.kept {t' : Nat} (I : Inv X pins σ H s) (k : ∀ b u, s.heap.get? b = some u → h'.get? b = some u) (hk : s.toks ≤ t' := by first | exact Nat.le_refl _ | exact Nat.le_succ _ | assumption | omega) : Inv X pins σ H { s with heap := h', toks := t' } := I.un (Un.kept k) ((I.hok.kept k).up hk) hk
/-- a new object laid and tracked -/
theorem Inv.laid {a : Addr} {o : HO} {t' : Nat} (I : Inv X pins σ H s) (k : ∀ b u, s.heap.get? b = some u → h'.get? b = some u) (hp : s.heap.objs.size ≤ a) (new : ObjOk X.prog X.w t' (upd H a o) h' a o) (hk : s.toks ≤ t' := by first | exact Nat.le_refl _ | exact Nat.le_succ _ | assumption | omega) :
    Inv X pins σ (upd H a o) { s with heap := h', toks := t' } := I.un (Un.laid k hp (I.hok.fresh hp)) ((I.hok.up hk).laid k hp new) hk
/-- an object written -/
theorem Inv.write {x e : Addr} {o : HO} {t' : Nat} (I : Inv X pins σ H s) (mu : Mut (H x)) (he : e = x ∨ H e = some (.own x)) (k : ∀ b u, b ≠ e → s.heap.get? b = some u → h'.get? b = some u) (heo : ∃ u, h'.get? e = some u)
    (new : ObjOk X.prog X.w t' (upd H x o) h' x o) (hk : s.toks ≤ t' := by first | exact Nat.le_refl _ | exact Nat.le_succ _ | assumption | omega) : Inv X pins σ (upd H x o) { s with heap := h', toks := t' } := I.un (Un.write mu he k heo) ((I.hok.up hk).write mu he k heo new) hk
theorem Inv.pins_of {pins' : List (Addr × Obj)} (I : Inv X pins σ H s) (h : ∀ p ∈ pins', s.heap.get? p.1 = some p.2 ∧ H p.1 = none ∧ p.1 ≠ X.env.locals ∧ p.1 ∉ X.fs ∧ ∀ v, p.2.data ≠ .cell v) : Inv X pins' σ H s :=
  ⟨I.ok, I.os, I.bare, I.base, I.loc, I.cell, I.free, I.freeC, fun p hp => (List.mem_append.mp hp).elim (fun z => I.pin p (List.mem_append_left _ z)) (h p), I.hok, I.len, I.pos, I.tk⟩

theorem nodup_ix {N : List Str} (hN : N.Nodup) {i j : Nat} {x : Str} (a : N[i]? = some x) (b : N[j]? = some x) : i = j := by
  obtain ⟨h1, e1⟩ := List.getElem?_eq_some_iff.mp a
  obtain ⟨h2, e2⟩ := List.getElem?_eq_some_iff.mp b
  exact (List.getElem_inj hN).mp (e1.trans e2.symm)

/-- a name is stored; what changed -/
theorem store_ok2 {M : Model} {A : Around} {E : Value → Shared → Prop} {i : Nat} {x : Str} {v : V} {u : Value} {Q : Unit → Shared → Prop} (I : Inv X pins σ H s) (hN : X.N.Nodup) (hi : X.N[i]? = some x) (hx : Loc X.env.scope x) (r : RelV s.toks v u)
    (h : ∀ s', Inv X pins (σ.set i (some v)) H s' → (∃ a, Heap.SameBut a s.heap s'.heap ∧ (a = X.env.locals ∨ X.env.cells.lookup x = some a)) → Q () s') (hf : X.fn x = true ∨ X.env.scope.names.lookup x = some .local := by first | exact .inl rfl | exact .inr rfl | assumption) : wpAny M A (storeName X.env x u) Q E s := by
  obtain ⟨m, hn, hl⟩ := id I.loc
  have hcls : (X.env.scope.kind == .class || (X.env.scope.kind == .module && X.env.locals != X.env.globals)) = false := by rw [I.ok.kind]; rfl
  have hiσ : i < σ.length := by rw [I.len]; exact (List.getElem?_eq_some_iff.mp hi).1
  have cne := I.cne
  have tracked : ∀ {a : Addr} {h' : Heap}, (∃ o, s.heap.get? a = some o ∧ H a = none) → Heap.SameBut a s.heap h' → HOk X.prog X.w s.toks H h' := fun {a h'} ha hs b ob e => by
    obtain ⟨_, _, hfree⟩ := ha
    refine (I.hok b ob e).stay (fun c w' hc q => (hs.2 c ?_).trans q) (fun _ q => q) fun _ _ q => q
    rintro rfl
    rcases hc with rfl | hc
    · rw [hfree] at e; cases e
    · rw [hfree] at hc; cases hc
  rcases hx with hk | hk
  · refine wpAny_storeName_local hk hn (fun h' hn' hs => ?_) hcls
    obtain ⟨oL, _, _, hoL, _⟩ := id hn
    refine h { s with heap := h', toks := s.toks + 1 } ⟨I.ok, I.os, I.bare, ⟨fun b o e n hb hx => ?_, fun b o e n hb hx => ?_, I.base.free, fun b o e hx => ?_, I.base.tups, I.base.frzs, I.base.tbls⟩, ⟨_, hn', fun j y v' e1 e2 e3 => ?_⟩, fun y c e => ?_, I.free, I.freeC, fun p hp => ?_, (tracked ⟨oL, hoL, I.free⟩ hs).up (Nat.le_succ _), by simpa using I.len, Nat.succ_pos _, Nat.le_succ_of_le I.tk⟩ ⟨_, hs, .inl rfl⟩
    · exact (hs.2 b (Nat.ne_of_lt (Nat.lt_of_lt_of_le (Heap.lt_size e) I.ok.above))).trans (I.base.keep b o e n hb hx)
    · obtain ⟨sl, e1⟩ := I.base.slot b o e n hb hx
      exact ⟨sl, (hs.2 b (Nat.ne_of_lt (Nat.lt_of_lt_of_le (Heap.lt_size e) I.ok.above))).trans e1⟩
    · obtain ⟨o', e1⟩ := I.base.there b o e hx
      exact ⟨o', (hs.2 b (Nat.ne_of_lt (Nat.lt_of_lt_of_le (Heap.lt_size e) I.ok.above))).trans e1⟩
    · by_cases hj : j = i
      · subst hj
        rw [hi] at e1; cases e1
        rw [List.getElem?_set_self hiσ] at e2
        cases e2
        exact ⟨u, r.up (Nat.le_succ _), .inl ⟨hk, by simp⟩⟩
      · rw [List.getElem?_set_ne (Ne.symm hj)] at e2
        obtain ⟨u', r', q⟩ := hl j y v' e1 e2 e3
        refine ⟨u', r'.up (Nat.le_succ _), ?_⟩
        rcases q with ⟨k, e⟩ | ⟨k, c, e, z⟩
        · refine .inl ⟨k, ?_⟩
          have : y ≠ x := fun e => hj (nodup_ix hN e1 (e ▸ hi))
          simp [this, e]
        · exact .inr ⟨k, c, e, z.sameBut hs (cne y c e)⟩
    · obtain ⟨w', z⟩ := I.cell y c e
      exact ⟨w', z.sameBut hs (cne y c e)⟩
    · obtain ⟨e, n, ne, nf, d⟩ := I.pin p hp
      exact ⟨(hs.2 p.1 ne).trans e, n, ne, nf, d⟩
  · have hfn : X.fn x = true := by
      rcases hf with z | z
      · exact z
      · rw [z] at hk; cases hk
    obtain ⟨c, hc⟩ := I.ok.has x (.inl hk)
    obtain ⟨w', z⟩ := I.cell x c hc
    refine wpAny_storeName_cell I.ok.kind hk hc z (fun h' hc' hs => ?_)
    obtain ⟨oc, hoc, hocd⟩ := id z
    refine h { s with heap := h' } ⟨I.ok, I.os, I.bare, ⟨fun b o e n hb hx => ?_, fun b o e n hb hx => ?_, I.base.free, fun b o e hx => ?_, I.base.tups, I.base.frzs, I.base.tbls⟩, ⟨m, hn.sameBut hs (Ne.symm (cne x c hc)), fun j y v' e1 e2 e3 => ?_⟩, fun y c' e => ?_, I.free, I.freeC, fun p hp => ?_, tracked ⟨oc, hoc, I.freeC x c hc⟩ hs, by simpa using I.len, I.pos, I.tk⟩ ⟨c, hs, .inr hc⟩
    · exact (hs.2 b (Nat.ne_of_lt (Nat.lt_of_lt_of_le (Heap.lt_size e) (I.ok.cab x c hfn hc)))).trans (I.base.keep b o e n hb hx)
    · obtain ⟨sl, e1⟩ := I.base.slot b o e n hb hx
      exact ⟨sl, (hs.2 b (Nat.ne_of_lt (Nat.lt_of_lt_of_le (Heap.lt_size e) (I.ok.cab x c hfn hc)))).trans e1⟩
    · obtain ⟨o', e1⟩ := I.base.there b o e hx
      exact ⟨o', (hs.2 b (Nat.ne_of_lt (Nat.lt_of_lt_of_le (Heap.lt_size e) (I.ok.cab x c hfn hc)))).trans e1⟩
    · by_cases hj : j = i
      · subst hj
        rw [hi] at e1; cases e1
        rw [List.getElem?_set_self hiσ] at e2
        cases e2
        exact ⟨u, r, .inr ⟨.inl hk, c, hc, hc'⟩⟩
      · rw [List.getElem?_set_ne (Ne.symm hj)] at e2
        obtain ⟨u', r', q⟩ := hl j y v' e1 e2 e3
        refine ⟨u', r', ?_⟩
        rcases q with q | ⟨k, c', e, z'⟩
        · exact .inl q
        · refine .inr ⟨k, c', e, z'.sameBut hs ?_⟩
          rintro rfl
          exact hj (nodup_ix hN e1 (I.ok.inj _ _ _ e hc ▸ hi))
    · by_cases hcc : c' = c
      · subst hcc; exact ⟨_, hc'⟩
      · obtain ⟨w2, z2⟩ := I.cell y c' e
        exact ⟨w2, z2.sameBut hs hcc⟩
    · obtain ⟨e, n, ne, nf, d⟩ := I.pin p hp
      refine ⟨(hs.2 p.1 ?_).trans e, n, ne, nf, d⟩
      intro q
      rw [q, hoc] at e
      have q' : oc = p.2 := Option.some.inj e
      exact d w' (by rw [← q']; exact hocd)
theorem store_ok {M : Model} {A : Around} {E : Value → Shared → Prop} {i : Nat} {x : Str} {v : V} {u : Value} {Q : Unit → Shared → Prop} (I : Inv X pins σ H s) (hN : X.N.Nodup) (hi : X.N[i]? = some x) (hx : Loc X.env.scope x) (r : RelV s.toks v u)
    (h : ∀ s', Inv X pins (σ.set i (some v)) H s' → Q () s') (hf : X.fn x = true ∨ X.env.scope.names.lookup x = some .local := by first | exact .inl rfl | exact .inr rfl | assumption) : wpAny M A (storeName X.env x u) Q E s :=
  store_ok2 I hN hi hx r (fun s' I' _ => h s' I') hf
/-- behind a call or a block, the state as it is -/
theorem Inv.call' {s' : Shared} {ch : List Addr} (I : Inv X pins σ H s) (ho : s'.os = s.os) (u : Un (frs X.stack) ch H H' s.heap s'.heap) (hok : HOk X.prog X.w s'.toks H' s'.heap) (hg : AllBare s'.gens)
    (hch : ∀ b ∈ ch, (b ∈ X.ex ∨ X.s₀.heap.objs.size ≤ b) ∧ b ≠ X.env.locals ∧ (∀ x c, X.env.cells.lookup x = some c → c ≠ b) ∧ ∀ p ∈ X.pn ++ pins, p.1 ≠ b) (hk : s.toks ≤ s'.toks) : Inv X pins σ H' s' := by
  obtain ⟨h', g', d', t', o'⟩ := s'
  have e : o' = s.os := ho
  subst e
  exact I.call (g' := g') (t' := t') (d' := d') u hok hg hch hk
end

/-- an exception: its class, its own dict's address (where it has one), the abstract heap behind it -/
abbrev XK := Value → Option Addr → Hp → Prop
abbrev St := List (Option V)
abbrev VK := V → Hp → Prop
/-- an expression's reading; a test's; an argument list's -/
abbrev TE := St → Hp → VK → Prop
abbrev TT := St → Hp → (Bool → Hp → Prop) → Prop
abbrev TA := St → Hp → (List V → Hp → Prop) → Prop
/-- what is wanted behind a statement -/
structure Ends where
  nx : St → Hp → Prop
  rt : VK
  bk : St → Hp → Prop := fun _ _ => False
  ct : St → Hp → Prop := fun _ _ => False
abbrev TS := Ends → St → Hp → Prop

def EP (X : Cx) (pins : List (Addr × Obj)) (σ : St) (Q : VK) (u : Value) (s' : Shared) : Prop := ∃ v H', Inv X pins σ H' s' ∧ RelV s'.toks v u ∧ Q v H'
def TP (X : Cx) (pins : List (Addr × Obj)) (σ : St) (Q : Bool → Hp → Prop) (b : Bool) (s' : Shared) : Prop := ∃ H', Inv X pins σ H' s' ∧ Q b H'
def AP (X : Cx) (pins : List (Addr × Obj)) (σ : St) (Q : List V → Hp → Prop) (us : List Value) (s' : Shared) : Prop := ∃ vs H', Inv X pins σ H' s' ∧ Vals s'.toks vs us ∧ Q vs H'
def SP (X : Cx) (pins : List (Addr × Obj)) (D : Ends) (f : Flow) (s' : Shared) : Prop :=
  match f with
  | .next => ∃ σ' H', Inv X pins σ' H' s' ∧ D.nx σ' H'
  | .brk => ∃ σ' H', Inv X pins σ' H' s' ∧ D.bk σ' H'
  | .cont => ∃ σ' H', Inv X pins σ' H' s' ∧ D.ct σ' H'
  | .ret u => ∃ v σ' H', Inv X pins σ' H' s' ∧ RelV s'.toks v u ∧ D.rt v H'

def PE (X : Cx) (e : Expr) (t : TE) : Prop :=
  ∀ (pins : List (Addr × Obj)) (s : Shared) (σ : St) (H : Hp) (Q : VK), Inv X pins σ H s → t σ H Q → wpAny (model X.prog X.w) X.A (eval e X.env) (EP X pins σ Q) X.xe s
def PT (X : Cx) (e : Expr) (t : TT) : Prop :=
  ∀ (pins : List (Addr × Obj)) (s : Shared) (σ : St) (H : Hp) (Q : Bool → Hp → Prop), Inv X pins σ H s → t σ H Q → wpAny (model X.prog X.w) X.A (isTrue e X.env (eval e X.env)) (TP X pins σ Q) X.xe s
/-- a test whatever its 'whole' is (and, or) -/
def PW (X : Cx) (e : Expr) (t : TT) : Prop :=
  ∀ (whole : Sem Value) (pins : List (Addr × Obj)) (s : Shared) (σ : St) (H : Hp) (Q : Bool → Hp → Prop), Inv X pins σ H s → t σ H Q → wpAny (model X.prog X.w) X.A (isTrue e X.env whole) (TP X pins σ Q) X.xe s
theorem PW.pt {X : Cx} {e : Expr} {t : TT} (h : PW X e t) : PT X e t := h _
/-- an argument list (no star), from the left -/
def PA (X : Cx) (es : List Expr) (t : TA) : Prop :=
  ∀ (pos : Pos) (pins : List (Addr × Obj)) (s : Shared) (σ : St) (H : Hp) (Q : List V → Hp → Prop), Inv X pins σ H s → t σ H Q → wpAny (model X.prog X.w) X.A (spliced (backTo pos (starEach es X.env))) (AP X pins σ Q) X.xe s
def PS (X : Cx) (st : Stmt) (t : TS) : Prop :=
  ∀ (pins : List (Addr × Obj)) (s : Shared) (σ : St) (H : Hp) (D : Ends), Inv X pins σ H s → t D σ H → wpAny (model X.prog X.w) X.A (exec st X.env) (SP X pins D) X.xe s
def PSs (X : Cx) (st : List Stmt) (t : TS) : Prop :=
  ∀ (pins : List (Addr × Obj)) (s : Shared) (σ : St) (H : Hp) (D : Ends), Inv X pins σ H s → t D σ H → wpAny (model X.prog X.w) X.A (execs st X.env) (SP X pins D) X.xe s
/-- .. knowing that the counter does not go down -/
theorem thu {α : Type} {t : Sem α} {Q Q' : α → Shared → Prop} {M : Model} {A : Around} {E : Value → Shared → Prop} {s : Shared} (h : wpAny M A t Q E s) (hQ : ∀ a s', s.toks ≤ s'.toks → Q a s' → Q' a s') : wpAny M A t Q' E s :=
  up (wpAny_mono h (fun a s' q k => hQ a s' k q) fun _ _ x _ => x)
/-- weaken the end -/
theorem thn {α : Type} {t : Sem α} {Q Q' : α → Shared → Prop} {M : Model} {A : Around} {E : Value → Shared → Prop} {s : Shared} (h : wpAny M A t Q E s) (hQ : ∀ a s, Q a s → Q' a s) : wpAny M A t Q' E s := wpAny_mono h hQ fun _ _ x => x
end L2

namespace L2
variable {nk : Nat}
open PySem PySem.Spec PyProof.Rows
section
variable {X : Cx}

def tVar (i : Nat) : TE := fun σ H Q => ∃ v, σ[i]? = some (some v) ∧ Q v H
def tC (v : V) : TE := fun _ H Q => Q v H
theorem pe_var {i : Nat} {x : Str} {pos : Pos} (hN : X.N[i]? = some x) (hv : Vis X.env.scope x) (hd : (x == ("__debug__" : Str)) = false := by decide) (hcd : (x == ("__classdict__" : Str)) = false := by decide) : PE X (.Name x pos) (tVar i) := by
  intro pins s σ H Q I h
  obtain ⟨v, e, h⟩ := h
  obtain ⟨m, hn, hl⟩ := I.loc
  obtain ⟨u, r, l⟩ := hl i x v hN e hv
  have fin : EP X pins σ Q u s := ⟨v, H, I, r, h⟩
  rcases l with ⟨hk, hm⟩ | ⟨hk, c, hc, hcell⟩
  · exact wpAny_Name (wpAny_loadName_local I.ok.kind hk hn hm fin) hd
  · rcases hk with hk | hk
    · exact wpAny_Name (wpAny_loadName_cell I.ok.kind hk hc hcell fin) hd
    · exact wpAny_Name (wpAny_loadName_free I.ok.kind hk hc hcell fin hcd) hd
theorem pe_int {i j pos} : PE X (.Constant (.int i) j pos) (tC (.int i)) := fun _ _ _ H _ I h => wpAny_Constant_int ⟨.int i, H, I.tok _, ⟨_, rfl⟩, h⟩
theorem pe_bl {b j pos} : PE X (.Constant (.bool b) j pos) (tC (.bl b)) := fun _ _ _ H _ I h => Constant_bool ⟨.bl b, H, I, rfl, h⟩
/-- the counter's token is one for a text that is made -/
theorem Inv.tkS {pins : List (Addr × Obj)} {σ : St} {H : Hp} {s : Shared} {x : Str} (I : Inv X pins σ H s) : RelV (s.toks + 1) (.str x) (.str x s.toks) := ⟨⟨s.toks, fun _ => ⟨I.pos, Nat.lt_succ_self _⟩⟩, rfl⟩
theorem pe_str {x j pos} : PE X (.Constant (.str x) j pos) (tC (.str x)) := fun _ _ _ H _ I h => Calls.Constant_str ⟨.str x, H, I.tok _, I.tkS, h⟩

/-- a global name of the def -/
def Gl (X : Cx) (x : Str) : Prop := X.env.kindOf x = some .globalImplicit
theorem ld_glob {E : Value → Shared → Prop} {pins : List (Addr × Obj)} {s : Shared} {σ : St} {H : Hp} {x : Str} {u : Value} {pos : Pos} {Q : Value → Shared → Prop} (I : Inv X pins σ H s) (hg : Gl X x) (hm : X.mg x = some u) (h : Q u s)
    (hd : (x == ("__debug__" : Str)) = false := by decide) : wpAny (model X.prog X.w) X.A (eval (.Name x pos) X.env) Q E s :=
  Calls.Name_function_global I.ok.kind hg (Calls.loadGlobal_global (by rw [I.ok.glob]; exact I.mod.glob.keeps I.bk) hm h) hd
theorem ld_blt {E : Value → Shared → Prop} {pins : List (Addr × Obj)} {s : Shared} {σ : St} {H : Hp} {x : Str} {u : Value} {pos : Pos} {Q : Value → Shared → Prop} (I : Inv X pins σ H s) (hg : Gl X x) (hm : X.mg x = none) (hv : bootBuiltins x = some u) (h : Q u s)
    (hn : x ≠ "__name__" := by decide) (hd : (x == ("__debug__" : Str)) = false := by decide) : wpAny (model X.prog X.w) X.A (eval (.Name x pos) X.env) Q E s := by
  obtain ⟨mb, h1, h2⟩ := I.mod.blt
  exact Calls.Name_function_global I.ok.kind hg (Calls.loadGlobal_builtin (by rw [I.ok.glob]; exact I.mod.glob.keeps I.bk) hm (by rw [I.ok.blt]; exact h1.keeps I.bk) ((h2 x hn).trans hv) h) hd
/-- a module's constant, a class, a function, as a value -/
theorem pe_glob {x : Str} {v : V} {u : Value} {pos : Pos} (hg : Gl X x) (hm : X.mg x = some u) (r : RelV 0 v u) (hd : (x == ("__debug__" : Str)) = false := by decide) : PE X (.Name x pos) (tC v) :=
  fun _ _ _ H _ I h => ld_glob I hg hm ⟨v, H, I, r.up (Nat.zero_le _), h⟩ hd
theorem pe_bltn {x : Str} {v : V} {u : Value} {pos : Pos} (hg : Gl X x) (hm : X.mg x = none) (hv : bootBuiltins x = some u) (r : RelV 0 v u) (hn : x ≠ "__name__" := by decide) (hd : (x == ("__debug__" : Str)) = false := by decide) : PE X (.Name x pos) (tC v) :=
  fun _ _ _ H _ I h => ld_blt I hg hm hv ⟨v, H, I, r.up (Nat.zero_le _), h⟩ hn hd

variable {a b : Expr} {ta tb : TE} {pos : Pos}
def PC (X : Cx) (op : CmpOp) (a b : Expr) (t : TE) : Prop :=
  ∀ (pins : List (Addr × Obj)) (s : Shared) (σ : St) (H : Hp) (Q : VK), Inv X pins σ H s → t σ H Q →
    wpAny (model X.prog X.w) X.A (eval a X.env) (fun v s₁ => wpAny (model X.prog X.w) X.A (eval b X.env) (fun u s₂ => wpAny (model X.prog X.w) X.A (compareOp op v u) (EP X pins σ Q) X.xe s₂) X.xe s₁) X.xe s
theorem nobehind (b : Expr) {op : CmpOp} (h : op ≠ .In) (h2 : op ≠ .NotIn) : behindInMarks op b = false := by
  have e1 : (op == CmpOp.In) = false := by cases op <;> first | rfl | exact absurd rfl h
  have e2 : (op == CmpOp.NotIn) = false := by cases op <;> first | rfl | exact absurd rfl h2
  cases b <;> simp [behindInMarks, e1, e2]
/-- is None -/
def tIsN (ta : TE) : TE := fun σ H Q => ta σ H fun x H1 => Q (.bl (decide (x = .non))) H1
theorem RelV.none_iff {x : V} {v : Value} (r : RelV nk x v) : (v == Value.none) = decide (x = .non) := by
  cases x with
  | non => cases r; rfl
  | bl _ => cases r; rfl
  | int _ => obtain ⟨t, rfl⟩ := r; rfl
  | str _ => obtain ⟨t, rfl⟩ := r; rfl
  | byt _ => obtain ⟨t, rfl⟩ := r; rfl
  | flt _ => obtain ⟨t, rfl⟩ := r; rfl
  | ref _ => cases r; rfl
  | ty _ => cases r; rfl
theorem pc_isN {j pos'} (ha : PE X a ta) : PC X .Is a (.Constant .none j pos') (tIsN ta) := by
  intro pins s σ H Q I h
  refine thu (ha pins s σ H _ I h) fun v s1 kt1 ⟨x, H1, I1, r1, q1⟩ => ?_
  exact Constant_none (is_none_gen ⟨.bl _, H1, I1, by rw [r1.none_iff]; rfl, q1⟩)
/-- a comparison as a value, as a test -/
def tB (t : TE) : TT := fun σ H Q => t σ H fun x H1 => ∃ c, x = .bl c ∧ Q c H1
theorem pe_cmp {op : CmpOp} {t : TE} (h : PC X op a b t) (h1 : behindInMarks op b = false := by first | exact nobehind _ (by decide) (by decide) | rfl) : PE X (.Compare a [op] [b] pos) t := fun pins s σ H Q I hw => wpAny_Compare1 (h pins s σ H Q I hw) h1
theorem pt_cmp {op : CmpOp} {t : TE} (h : PC X op a b t) (h1 : behindInMarks op b = false := by first | exact nobehind _ (by decide) (by decide) | rfl) : PT X (.Compare a [op] [b] pos) (tB t) := by
  intro pins s σ H Q I hw
  refine wpAny_isTrue_Compare1 (thn (h pins s σ H _ I hw) fun v s1 h1 => thn h1 fun u s2 h2 => thn h2 fun c s3 ⟨x, H1, I1, r1, q1⟩ => ?_) h1
  obtain ⟨d, rfl, q⟩ := q1
  cases r1
  exact wpAny_truthy_bool ⟨H1, I1, q⟩
/-- an expression whose value is a bool, as a test -/
theorem pt_val {e : Expr} {t : TE} (h : PE X e t) (he : ∀ whole, isTrue e X.env whole = (do let v ← whole; standAt e.pos; holding [v] (truthy v)) := by intro _; rfl) : PT X e (tB t) := by
  intro pins s σ H Q I hw
  refine isTrue_plain (thu (h pins s σ H _ I hw) fun v s1 kt1 ⟨x, H1, I1, r1, q1⟩ => ?_) (he _)
  obtain ⟨d, rfl, q⟩ := q1
  cases r1
  exact wpAny_truthy_bool ⟨H1, I1, q⟩

variable {tA tB' : TT} {rest : List Expr}
def tAnd (t u : TT) : TT := fun σ H Q => t σ H fun c H1 => if c = true then u σ H1 Q else Q false H1
def tOr (t u : TT) : TT := fun σ H Q => t σ H fun c H1 => if c = true then Q true H1 else u σ H1 Q
def tNot (t : TT) : TT := fun σ H Q => t σ H fun c H1 => Q (!c) H1
theorem pw_and1 (ha : PT X a tA) : PW X (.BoolOp .And [a] pos) tA := by
  intro wh pins s σ H Q I h
  refine isTrue_and (thn (ha pins s σ H Q I h) fun c s1 e => ?_)
  cases c with
  | true => exact isTrue_and_nil e
  | false => exact e
theorem pw_or1 (ha : PT X a tA) : PW X (.BoolOp .Or [a] pos) tA := by
  intro wh pins s σ H Q I h
  refine isTrue_or (thn (ha pins s σ H Q I h) fun c s1 e => ?_)
  cases c with
  | false => exact isTrue_or_nil e
  | true => exact e
theorem pw_and (ha : PT X a tA) (hb : PW X (.BoolOp .And (b :: rest) pos) tB') : PW X (.BoolOp .And (a :: b :: rest) pos) (tAnd tA tB') := by
  intro wh pins s σ H Q I h
  refine isTrue_and (thu (ha pins s σ H _ I h) fun c s1 kt1 ⟨H1, I1, q1⟩ => ?_)
  cases c with
  | true => exact hb wh pins s1 σ H1 Q I1 q1
  | false => exact ⟨H1, I1, q1⟩
theorem pw_or (ha : PT X a tA) (hb : PW X (.BoolOp .Or (b :: rest) pos) tB') : PW X (.BoolOp .Or (a :: b :: rest) pos) (tOr tA tB') := by
  intro wh pins s σ H Q I h
  refine isTrue_or (thu (ha pins s σ H _ I h) fun c s1 kt1 ⟨H1, I1, q1⟩ => ?_)
  cases c with
  | true => exact ⟨H1, I1, q1⟩
  | false => exact hb wh pins s1 σ H1 Q I1 q1
theorem pt_not (ha : PT X a tA) : PT X (.UnaryOp .Not a pos) (tNot tA) := by
  intro pins s σ H Q I h
  exact isTrue_not (ha pins s σ H (fun c H1 => Q (!c) H1) I h)
/-- .. as values (bools) -/
def tAndV (ta tb : TE) : TE := fun σ H Q => ta σ H fun x H1 => ∃ c, x = .bl c ∧ if c = true then tb σ H1 Q else Q (.bl false) H1
def tNotV (ta : TE) : TE := fun σ H Q => ta σ H fun x H1 => ∃ c, x = .bl c ∧ Q (.bl (!c)) H1
theorem pe_one {op} {t : TE} (h : PE X a t) : PE X (.BoolOp op [a] pos) t := fun pins s σ H Q I hw => BoolOp_one (h pins s σ H Q I hw)
theorem pe_and (ha : PE X a ta) (hb : PE X (.BoolOp .And (b :: rest) pos) tb) : PE X (.BoolOp .And (a :: b :: rest) pos) (tAndV ta tb) := by
  intro pins s σ H Q I h
  refine BoolOp_and (thu (ha pins s σ H _ I h) fun v s1 kt1 ⟨x, H1, I1, r1, q1⟩ => ?_)
  obtain ⟨c, rfl, q1⟩ := q1
  cases r1
  refine wpAny_truthy_bool ?_
  cases c with
  | true => exact hb pins s1 σ H1 Q I1 q1
  | false => exact ⟨.bl false, H1, I1, rfl, q1⟩
theorem pe_not (ha : PE X a ta) : PE X (.UnaryOp .Not a pos) (tNotV ta) := by
  intro pins s σ H Q I h
  refine UnaryOp_ (thu (ha pins s σ H _ I h) fun v s1 kt1 ⟨x, H1, I1, r1, q1⟩ => ?_)
  obtain ⟨c, rfl, q1⟩ := q1
  cases r1
  exact not_of (wpAny_truthy_bool ⟨.bl (!c), H1, I1, rfl, q1⟩)
/-- a if t else b -/
def tIf (t : TT) (ta tb : TE) : TE := fun σ H Q => t σ H fun c H1 => if c = true then ta σ H1 Q else tb σ H1 Q
theorem pe_ifExp {c : Expr} (hc : PT X c tA) (ha : PE X a ta) (hb : PE X b tb) : PE X (.IfExp c a b pos) (tIf tA ta tb) := by
  intro pins s σ H Q I h
  refine wpAny_IfExp (thu (hc pins s σ H _ I h) fun d s1 kt1 ⟨H1, I1, q1⟩ => ?_)
  cases d with
  | true => exact ha pins s1 σ H1 Q I1 q1
  | false => exact hb pins s1 σ H1 Q I1 q1
end
end L2

namespace L2
variable {nk : Nat}
open PySem PySem.Spec PyProof.Rows

def SqL (K : PySem.W.Frag) (H : Hp) (a : Addr) (xs : List V) : Prop :=
  Rd H a (.lst xs) ∨
    ∃ (o : Obj) (its : Array Value) (n : Nat), K.lookup a = some o ∧ o.cls = .type "list" ∧ o.dict = none ∧ o.data = .seq its n ∧ its.size ≤ sizeLine ∧ Vals 0 xs its.toList
def SqT (K : PySem.W.Frag) (H : Hp) (a : Addr) (xs : List V) : Prop :=
  Rd H a (.tup xs) ∨
    ∃ (o : Obj) (its : Array Value) (n : Nat), K.lookup a = some o ∧ o.cls = .type "tuple" ∧ o.data = .seq its n ∧ its.size ≤ sizeLine ∧ Vals 0 xs its.toList
def absV : Value → Option V
  | .none => some .non
  | .bool b => some (.bl b)
  | .int i _ => some (.int i)
  | .str x _ => some (.str x)
  | .bytes b _ => some (.byt b)
  | .float b _ => some (.flt b)
  | .ref a => some (.ref a)
  | .type n => some (.ty n)
  | _ => none
theorem RelV.abs {x : V} {u : Value} (r : RelV nk x u) : absV u = some x := by
  cases x with
  | non => cases r; rfl
  | bl _ => cases r; rfl
  | int _ => obtain ⟨t, rfl⟩ := r; rfl
  | str _ => obtain ⟨t, rfl⟩ := r; rfl
  | byt _ => obtain ⟨t, rfl⟩ := r; rfl
  | flt _ => obtain ⟨t, rfl⟩ := r; rfl
  | ref _ => cases r; rfl
  | ty _ => cases r; rfl
theorem RelV.inj {x y : V} {u : Value} (r : RelV nk x u) (q : RelV nk y u) : x = y := Option.some.inj (r.abs.symm.trans q.abs)
theorem Vals.inj : ∀ {xs ys : List V} {us : List Value}, Vals nk xs us → Vals nk ys us → xs = ys
  | _, _, _, .nil, .nil => rfl
  | _, _, _, .cons r t, .cons r' t' => by rw [r.inj r', Vals.inj t t']
section
variable {X : Cx} {pins : List (Addr × Obj)} {σ : St} {H : Hp} {s : Shared} {a : Addr} {xs ys : List V}
theorem SqL.of {K : PySem.W.Frag} (h : H a = some (.lst xs)) : SqL K H a xs := .inl (.inl h)
theorem SqT.of {K : PySem.W.Frag} (h : H a = some (.tup xs)) : SqT K H a xs := .inl (.inl h)
theorem Inv.list (I : Inv X pins σ H s) (h : SqL X.K H a xs) : ∃ its : List Value, Vals s.toks xs its ∧ PlainL s.heap a its.toArray ∧ xs.length ≤ sizeLine := by
  rcases h with h | ⟨o, its, n, hk, hc, hd, hs, hz, r⟩
  · obtain ⟨z, its, n, r, e⟩ := h.ok I.hok
    exact ⟨its, r, ⟨_, n, e, rfl, rfl, rfl⟩, z⟩
  · refine ⟨its.toList, r.up (Nat.zero_le _), ⟨o, n, I.kIn a o hk, hc, hd, by simpa using hs⟩, ?_⟩
    have e := r.length
    simp only [Array.length_toList] at e
    omega
theorem Inv.tuple (I : Inv X pins σ H s) (h : SqT X.K H a xs) : ∃ its : List Value, Vals s.toks xs its ∧ IsTup s.heap a its.toArray ∧ xs.length ≤ sizeLine := by
  rcases h with h | ⟨o, its, n, hk, hc, hs, hz, r⟩
  · obtain ⟨z, its, r, p⟩ := h.ok I.hok
    exact ⟨its, r, p, z⟩
  · refine ⟨its.toList, r.up (Nat.zero_le _), ⟨o, I.kIn a o hk, hc, n, by simpa using hs⟩, ?_⟩
    have e := r.length
    simp only [Array.length_toList] at e
    omega
theorem Inv.list_inj (I : Inv X pins σ H s) (h : SqL X.K H a xs) (h' : SqL X.K H a ys) : xs = ys := by
  obtain ⟨its, r, ⟨o, n, e, _, _, d⟩, _⟩ := I.list h
  obtain ⟨its', r', ⟨o', n', e', _, _, d'⟩, _⟩ := I.list h'
  rw [e] at e'; cases e'
  rw [d] at d'
  injection d' with d1 _
  have : its = its' := by simpa using congrArg Array.toList d1
  subst this
  exact r.inj r'
theorem Inv.tuple_inj (I : Inv X pins σ H s) (h : SqT X.K H a xs) (h' : SqT X.K H a ys) : xs = ys := by
  obtain ⟨its, r, ⟨o, e, _, n, d⟩, _⟩ := I.tuple h
  obtain ⟨its', r', ⟨o', e', _, n', d'⟩, _⟩ := I.tuple h'
  rw [e] at e'; cases e'
  rw [d] at d'
  injection d' with d1 _
  have : its = its' := by simpa using congrArg Array.toList d1
  subst this
  exact r.inj r'
end

abbrev Cx.wish (X : Cx) (E : Value → Shared → Prop) : Cx := { X with xe := E }
/-- no exception leaves -/
abbrev Cx.nox (X : Cx) : Cx := X.wish fun _ _ => False
theorem Cx.Ok.wish {X : Cx} (ok : X.Ok) (E : Value → Shared → Prop) : (X.wish E).Ok :=
  ⟨ok.mod, ok.kind, ok.glob, ok.blt, ok.above, ok.inj, ok.has, ok.cab, ok.hd, ok.frames, ok.stk, ok.exf, ok.bs, ok.bsz, ok.noex, ok.exfs, ok.funs, ok.frf⟩
theorem Cx.Ok.unwish {X : Cx} {E : Value → Shared → Prop} (ok : (X.wish E).Ok) : X.Ok :=
  ⟨ok.mod, ok.kind, ok.glob, ok.blt, ok.above, ok.inj, ok.has, ok.cab, ok.hd, ok.frames, ok.stk, ok.exf, ok.bs, ok.bsz, ok.noex, ok.exfs, ok.funs, ok.frf⟩
section
variable {X : Cx} {pins : List (Addr × Obj)} {σ : St} {H : Hp} {s : Shared} {E : Value → Shared → Prop}
theorem Inv.wish (I : Inv X pins σ H s) (E : Value → Shared → Prop) : Inv (X.wish E) pins σ H s := ⟨I.ok.wish E, I.os, I.bare, I.base, I.loc, I.cell, I.free, I.freeC, I.pin, I.hok, I.len, I.pos, I.tk⟩
theorem Inv.unwish (I : Inv (X.wish E) pins σ H s) : Inv X pins σ H s := ⟨I.ok.unwish, I.os, I.bare, I.base, I.loc, I.cell, I.free, I.freeC, I.pin, I.hok, I.len, I.pos, I.tk⟩
theorem SP.unwish {D : Ends} {f : Flow} {s' : Shared} (h : SP (X.wish E) pins D f s') : SP X pins D f s' := by
  cases f with
  | next => obtain ⟨σ', H', I, q⟩ := h; exact ⟨σ', H', I.unwish, q⟩
  | brk => obtain ⟨σ', H', I, q⟩ := h; exact ⟨σ', H', I.unwish, q⟩
  | cont => obtain ⟨σ', H', I, q⟩ := h; exact ⟨σ', H', I.unwish, q⟩
  | ret u => obtain ⟨v, σ', H', I, r, q⟩ := h; exact ⟨v, σ', H', I.unwish, r, q⟩
theorem PE.nox {e : Expr} {t : TE} (h : PE X.nox e t) : PE X e t := fun pins s σ H Q I hw =>
  wpAny_mono (h pins s σ H Q (I.wish _) hw) (fun _ _ ⟨v, H', I', r, q⟩ => ⟨v, H', I'.unwish, r, q⟩) fun _ _ z => False.elim z
theorem PT.nox {e : Expr} {t : TT} (h : PT X.nox e t) : PT X e t := fun pins s σ H Q I hw =>
  wpAny_mono (h pins s σ H Q (I.wish _) hw) (fun _ _ ⟨H', I', q⟩ => ⟨H', I'.unwish, q⟩) fun _ _ z => False.elim z
theorem PSs.nox {st : List Stmt} {t : TS} (h : PSs X.nox st t) : PSs X st t := fun pins s σ H D I hw =>
  wpAny_mono (h pins s σ H D (I.wish _) hw) (fun _ _ q => q.unwish) fun _ _ z => False.elim z
end

section
variable {X : Cx} {st : Stmt} {rest : List Stmt} {t u : TS} {e : Expr} {te : TE} {pos : Pos}
def tNext : TS := fun D σ H => D.nx σ H
def tSeq (t u : TS) : TS := fun D σ H => t { D with nx := u D } σ H
theorem pss_nil : PSs X [] tNext := fun _ _ σ H _ I h => wpAny_execs_nil ⟨σ, H, I, h⟩
theorem pss_cons (h1 : PS X st t) (h2 : PSs X rest u) : PSs X (st :: rest) (tSeq t u) := by
  intro pins s σ H D I h
  refine wpAny_execs_cons (thn (h1 pins s σ H { D with nx := u D } I h) fun f s1 q => ?_)
  cases f with
  | next =>
    obtain ⟨σ', H', I', q⟩ := q
    exact h2 pins s1 σ' H' D I' q
  | ret v => exact q
  | brk => exact q
  | cont => exact q
theorem pss_one (h1 : PS X st t) : PSs X [st] t := by
  intro pins s σ H D I h
  refine wpAny_execs_cons (thn (h1 pins s σ H D I h) fun f s1 q => ?_)
  cases f with
  | next => exact wpAny_execs_nil q
  | ret v => exact q
  | brk => exact q
  | cont => exact q
/-- in a def's body nothing is shown -/
theorem Inv.quiet {pins : List (Addr × Obj)} {σ : St} {H : Hp} {s : Shared} (I : Inv X pins σ H s) : interactive X.env = false := by simp [interactive, I.ok.kind]
/-- an expression whose value is dropped -/
def tDrop (te : TE) : TS := fun D σ H => te σ H fun _ H1 => D.nx σ H1
theorem ps_expr (he : PE X e te) (hs : swapsWith e none pos.line X.env = pure false := by rfl) : PS X (.Expr e pos) (tDrop te) := by
  intro pins s σ H D I h
  exact wpAny_Expr_any (thu (he pins s σ H _ I h) fun v s1 kt1 ⟨x, H1, I1, r1, q1⟩ => ⟨σ, H1, I1, q1⟩) I.quiet hs
def tRet (te : TE) : TS := fun D σ H => te σ H D.rt
theorem ps_ret (he : PE X e te) : PS X (.Return (some e) pos) (tRet te) := by
  intro pins s σ H D I h
  exact wpAny_Return_some (thu (he pins s σ H _ I h) fun v s1 kt1 ⟨x, H1, I1, r1, q1⟩ => ⟨x, σ, H1, I1, r1, q1⟩)
def tIfS (c : TT) (t u : TS) : TS := fun D σ H => c σ H fun b H1 => if b = true then t D σ H1 else u D σ H1
theorem ps_if {c : Expr} {a b : List Stmt} {tc : TT} (hc : PT X c tc) (ha : PSs X a t) (hb : PSs X b u) : PS X (.If c a b pos) (tIfS tc t u) := by
  intro pins s σ H D I h
  refine wpAny_If (thu (hc pins s σ H _ I h) fun d s1 kt1 ⟨H1, I1, q1⟩ => ?_)
  cases d with
  | true => exact ha pins s1 σ H1 D I1 q1
  | false => exact hb pins s1 σ H1 D I1 q1
end

abbrev TG := V → St → Hp → (St → Hp → Prop) → Prop
abbrev TGs := List V → St → Hp → (St → Hp → Prop) → Prop
def PG (X : Cx) (target : Expr) (t : TG) : Prop :=
  ∀ (pins : List (Addr × Obj)) (s : Shared) (σ : St) (H : Hp) (v : V) (u : Value) (Q : St → Hp → Prop), Inv X pins σ H s → RelV s.toks v u → t v σ H Q →
    wpAny (model X.prog X.w) X.A (assign target X.env u) (fun _ s' => ∃ σ' H', Inv X pins σ' H' s' ∧ Q σ' H') X.xe s
/-- several targets, one after another -/
def PGs (X : Cx) (ts : List Expr) (t : TGs) : Prop :=
  ∀ (pins : List (Addr × Obj)) (s : Shared) (σ : St) (H : Hp) (vs : List V) (us : List Value) (Q : St → Hp → Prop), Inv X pins σ H s → Vals s.toks vs us → t vs σ H Q →
    wpAny (model X.prog X.w) X.A (assignInOrder ((assignEach ts X.env).map (·.2)) us) (fun _ s' => ∃ σ' H', Inv X pins σ' H' s' ∧ Q σ' H') X.xe s
section
variable {X : Cx} {pos : Pos}
def gName (i : Nat) : TG := fun v σ H Q => Q (σ.set i (some v)) H
theorem pg_name {i : Nat} {x : Str} (hN : X.N.Nodup) (hi : X.N[i]? = some x) (hx : Loc X.env.scope x) (hf : X.fn x = true ∨ X.env.scope.names.lookup x = some .local := by first | exact .inl rfl | exact .inr rfl | assumption) : PG X (.Name x pos) (gName i) := by
  intro pins s σ H v u Q I r h
  exact wpAny_assign_Name (store_ok I hN hi hx r (fun s' I' => ⟨_, H, I', h⟩) hf)
def gNil : TGs := fun vs σ H Q => vs = [] ∧ Q σ H
def gCons (t : TG) (u : TGs) : TGs := fun vs σ H Q => ∃ v r, vs = v :: r ∧ t v σ H fun σ' H' => u r σ' H' Q
theorem pgs_nil : PGs X [] gNil := by
  intro pins s σ H vs us Q I r h
  obtain ⟨e, h⟩ := h
  subst e
  cases r
  exact assignInOrder_nil ⟨σ, H, I, h⟩
theorem pgs_cons {e : Expr} {es : List Expr} {t : TG} {u : TGs} (h1 : PG X e t) (h2 : PGs X es u)
    (hs : (assignEach (e :: es) X.env).map (·.2) = assign e X.env :: (assignEach es X.env).map (·.2) := by rfl) : PGs X (e :: es) (gCons t u) := by
  intro pins s σ H vs us Q I r h
  obtain ⟨v, vr, e1, h⟩ := h
  subst e1
  cases r with
  | cons r rr =>
    rw [hs]
    refine assignInOrder_cons (thu (h1 pins s σ H _ _ _ I r h) fun _ s1 kt1 ⟨σ1, H1, I1, q1⟩ => ?_)
    exact h2 pins s1 σ1 H1 _ _ Q I1 (Vals.up kt1 rr) q1
/-- (a, b, ..) = a tuple of that length -/
def gTup (K : PySem.W.Frag) (n : Nat) (t : TGs) : TG := fun v σ H Q => ∃ a xs, v = .ref a ∧ SqT K H a xs ∧ xs.length = n ∧ t xs σ H Q
theorem pg_tup {es : List Expr} {k : Nat} {t : TGs} {n : Nat} (hc : X.calm = true) (h : PGs X es t)
    (hn : (assignEach es X.env).length = n := by rfl) (hst : (assignEach es X.env).findIdx? (·.1) = none := by rfl) : PG X (.Tuple es k pos) (gTup X.K n t) := by
  intro pins s σ H v u Q I r hw
  obtain ⟨a, xs, e1, hq, hl, hw⟩ := hw
  subst e1
  cases r
  obtain ⟨its, rv, ht, hz⟩ := I.tuple hq
  refine assign_Tuple_tuple (I.ok.hd hc) ht (by simp [hn, ← hl, rv.length]) hst fun h' hx => ?_
  have I1 : Inv X pins σ H { s with heap := h' } := I.kept (t' := s.toks) fun b o e => hx b o (Nat.ne_of_lt (Heap.lt_size e)) e
  exact h pins _ σ H xs _ Q I1 (by simpa using rv) hw
/-- target = value -/
def tAsg (te : TE) (g : TG) : TS := fun D σ H => te σ H fun x H1 => g x σ H1 D.nx
theorem ps_asg {tg e : Expr} {te : TE} {g : TG} (he : PE X e te) (hg : PG X tg g) (hs : swapsWithSole [tg] e pos.line X.env = pure false := by rfl) (hw : swappedStores [tg] e X.env = pure none := by rfl)
    (h1 : (assignEach [tg] X.env).map (·.2) = [assign tg X.env] := by rfl) : PS X (.Assign [tg] e pos) (tAsg te g) := by
  intro pins s σ H D I h
  refine wpAny_Assign_stores (thu (he pins s σ H _ I h) fun v s1 kt1 ⟨x, H1, I1, r1, q1⟩ => ?_) hs hw
  rw [h1]
  exact thn (hg pins s1 σ H1 x v _ I1 r1 q1) fun _ s2 q => q
/-- name = value -/
theorem ps_set {i : Nat} {x : Str} {e : Expr} {te : TE} {pos' : Pos} (hN : X.N.Nodup) (hi : X.N[i]? = some x) (hx : Loc X.env.scope x) (he : PE X e te) (hs : swapsWith e (some (.Name x pos')) pos.line X.env = pure false := by rfl) (hf : X.fn x = true ∨ X.env.scope.names.lookup x = some .local := by first | exact .inl rfl | exact .inr rfl | assumption) :
    PS X (.Assign [.Name x pos'] e pos) (tAsg te (gName i)) := by
  intro pins s σ H D I h
  refine wpAny_Assign_Name (thu (he pins s σ H _ I h) fun v s1 kt1 ⟨y, H1, I1, r1, q1⟩ => ?_) hs
  exact store_ok I1 hN hi hx r1 (fun s2 I2 => ⟨_, H1, I2, q1⟩) hf
end

section
variable {X : Cx} {pos : Pos}
/-- the invariant W with its measure -/
def tWhile (c : TT) (tb : TS) : TS := fun D σ H => ∃ W : Nat → St → Hp → Prop, (∃ m, W m σ H) ∧ ∀ m σ H, W m σ H →
  c σ H fun b H1 => if b = true then ∃ N : St → Hp → Prop, (∀ σ' H', N σ' H' → ∃ m', m' < m ∧ W m' σ' H') ∧ tb { D with nx := N, ct := N, bk := D.nx } σ H1 else D.nx σ H1
theorem ps_while {c : Expr} {body : List Stmt} {tc : TT} {tb : TS} (hp : PassesOwn (model X.prog X.w) X.A X.env X.xe) (hc : PT X c tc) (hb : PSs X body tb) : PS X (.While c body [] pos) (tWhile tc tb) := by
  intro pins s σ H D I h
  obtain ⟨W, ⟨m0, w0⟩, turn⟩ := h
  refine wpAny_While (codeAny_whileLoop (fun n s' => ∃ σ' H', Inv X pins σ' H' s' ∧ W n σ' H') ?_ m0 ⟨σ, H, I, w0⟩)
  rintro n s1 ⟨σ1, H1, I1, w1⟩
  refine wpAny_passesOwn hp (thu (hc pins s1 σ1 H1 _ I1 (turn n σ1 H1 w1)) fun b s2 kt2 ⟨H2, I2, q2⟩ => ?_)
  cases b with
  | true =>
    obtain ⟨N, hN, q2⟩ := q2
    rw [if_pos rfl]
    refine wpAny_passesOwn hp (thn (hb pins s2 σ1 H2 _ I2 q2) fun f s3 q3 => ?_)
    cases f with
    | next =>
      obtain ⟨σ3, H3, I3, n3⟩ := q3
      obtain ⟨m', hm, w3⟩ := hN σ3 H3 n3
      exact ⟨m', hm, σ3, H3, I3, w3⟩
    | cont =>
      obtain ⟨σ3, H3, I3, n3⟩ := q3
      obtain ⟨m', hm, w3⟩ := hN σ3 H3 n3
      exact ⟨m', hm, σ3, H3, I3, w3⟩
    | brk => exact q3
    | ret v => exact q3
  | false =>
    rw [if_neg Bool.false_ne_true]
    exact wpAny_execs_nil ⟨σ1, H2, I2, q2⟩
end

/-- at turn i: it yields x (the heap may grow), or it stops -/
structure It where
  go : Nat → Hp → Prop
  yld : Nat → Hp → V → Hp → Prop
  stop : Nat → Hp → Prop
/-- the iterator's own objects may turn: they are not the frame's, not pinned, younger than the entry (or a comprehension's own) -/
def FpOk (X : Cx) (pins : List (Addr × Obj)) (H : Hp) (b : Addr) : Prop :=
  H b = none ∧ b ≠ X.env.locals ∧ b ∉ X.fs ∧ (b ∈ X.ex ∨ X.s₀.heap.objs.size ≤ b) ∧ (∀ x c, X.env.cells.lookup x = some c → c ≠ b) ∧ ∀ p ∈ X.pn ++ pins, p.1 ≠ b
theorem Inv.fpOk {X : Cx} {pins : List (Addr × Obj)} {σ : St} {H H' : Hp} {s : Shared} {b : Addr} (I : Inv X pins σ H s) (hb : s.heap.objs.size ≤ b) (hn : H' b = none) : FpOk X pins H' b := by
  refine ⟨hn, Nat.ne_of_gt (Nat.lt_of_lt_of_le I.lt hb), I.nofs hb, .inr (Nat.le_trans I.sz hb), fun x c e z => ?_, fun p hp z => ?_⟩
  · obtain ⟨v, q⟩ := I.cell x c e
    exact absurd (Nat.lt_of_lt_of_le q.lt (by rw [z]; exact hb)) (Nat.lt_irrefl _)
  · exact absurd (Nat.lt_of_lt_of_le (Heap.lt_size (I.pin p hp).1) (by rw [z]; exact hb)) (Nat.lt_irrefl _)
structure Turn (P : Program) (w : World) (K : PySem.W.Frag) (tg : Expr) (J : It) (fp : List Addr) (it : Addr) (tn : Nat → Heap → Prop) : Prop where
  mem : it ∈ fp
  obj : ∀ i h, tn i h → ∀ b ∈ fp, ∃ o, h.get? b = some o ∧ ∀ v, o.data ≠ .cell v
  keep : ∀ i h h', tn i h → (∀ b ∈ fp, ∀ o, h.get? b = some o → h'.get? b = some o) → tn i h'
  item : ∀ (X : Cx), X.prog = P → X.w = w → X.K = K → X.calm = true → ∀ (i : Nat) (pins : List (Addr × Obj)) (s : Shared) (σ : St) (H : Hp) (E : Value → Shared → Prop), Inv X pins σ H s → (∀ b ∈ fp, FpOk X pins H b) → tn i s.heap → J.go i H →
    wpAny (model P w) X.A (pyNext (.ref it)) (fun r s1 => ∃ u, r = some u ∧
      wpAny (model P w) X.A (letOwnedTupleGo tg (.ref it) u) (fun _ s2 => ∃ x H', Inv X pins σ H' s2 ∧ RelV s2.toks x u ∧ J.yld i H x H' ∧ tn (i + 1) s2.heap ∧ ∀ b ∈ fp, H' b = none) E s1) E s
  done : ∀ (X : Cx), X.prog = P → X.w = w → X.K = K → X.calm = true → ∀ (i : Nat) (pins : List (Addr × Obj)) (s : Shared) (σ : St) (H : Hp) (E : Value → Shared → Prop), Inv X pins σ H s → (∀ b ∈ fp, FpOk X pins H b) → tn i s.heap → J.stop i H →
    wpAny (model P w) X.A (pyNext (.ref it)) (fun r s1 => r = none ∧ Inv X pins σ H s1) E s
  self : ∀ (A : Around) (i : Nat) (s : Shared) (Q : Value → Shared → Prop) (E : Value → Shared → Prop), tn i s.heap → Q (.ref it) s → wpAny (model P w) A (pyIter (.ref it)) Q E s
abbrev TI := St → Hp → (It → Hp → Prop) → Prop
/-- an iterator has come -/
def PIE (X : Cx) (pins : List (Addr × Obj)) (σ : St) (tg : Expr) (R : It → Hp → Prop) (itv : Value) (s2 : Shared) : Prop :=
  ∃ (it : Addr) (fp : List Addr) (tn : Nat → Heap → Prop) (J : It) (H' : Hp), itv = .ref it ∧ Inv X pins σ H' s2 ∧ Turn X.prog X.w X.K tg J fp it tn ∧ tn 0 s2.heap ∧ (∀ b ∈ fp, FpOk X pins H' b) ∧ R J H'
def PI (X : Cx) (tg iter : Expr) (wi : TI) : Prop :=
  ∀ (pins : List (Addr × Obj)) (s : Shared) (σ : St) (H : Hp) (R : It → Hp → Prop), Inv X pins σ H s → wi σ H R →
    wpAny (model X.prog X.w) X.A (eval iter X.env) (fun v s1 => wpAny (model X.prog X.w) X.A (pyIter v) (PIE X pins σ tg R) X.xe s1) X.xe s

/-- the step ahead of the store is nothing for an iterator that keeps no tuple -/
theorem go_of {M : Model} {A : Around} {E : Value → Shared → Prop} {s : Shared} {tg : Expr} {it : Addr} {u : Value} {o : Obj} {n : String} {vs : Array Value} {Q : Unit → Shared → Prop} (ho : s.heap.get? it = some o) (hc : o.cls = .type n) (hd : o.data = .fields vs)
    (hn : ["enumerate", "zip", "dict_itemiterator", "dict_reverseitemiterator", "odict_iterator", "itertools.zip_longest", "itertools.pairwise"].contains n = false) (hQ : Q () s) : wpAny M A (letOwnedTupleGo tg (.ref it) u) Q E s := by
  unfold letOwnedTupleGo
  cases tg <;> first
    | exact wpAny_pure hQ
    | (cases u <;> first
        | exact wpAny_pure hQ
        | (refine wpAny_bind (wpAny_load ho ?_)
           rw [hc, hd]
           show wpAny M A (if (["enumerate", "zip", "dict_itemiterator", "dict_reverseitemiterator", "odict_iterator", "itertools.zip_longest", "itertools.pairwise"].contains n && vs[0]? == some (rawInt _)) = true then _ else _) Q E s
           rw [if_neg (by intro h; rw [hn, Bool.false_and] at h; cases h)]
           exact wpAny_pure hQ))

/-- the list at a, as it stands at each turn (a loop may append to it) -/
def Itl (K : PySem.W.Frag) (a : Addr) : It :=
  ⟨fun i H => ∃ xs x, SqL K H a xs ∧ xs[i]? = some x, fun i H x H' => H' = H ∧ ∀ xs, SqL K H a xs → xs[i]? = some x, fun i H => ∃ xs, SqL K H a xs ∧ xs.length ≤ i⟩
def Itt (K : PySem.W.Frag) (a : Addr) : It :=
  ⟨fun i H => ∃ xs x, SqT K H a xs ∧ xs[i]? = some x, fun i H x H' => H' = H ∧ ∀ xs, SqT K H a xs → xs[i]? = some x, fun i H => ∃ xs, SqT K H a xs ∧ xs.length ≤ i⟩
/-- lo, lo + 1, .. (n of them) -/
def Itr (lo : Int) (n : Nat) : It := ⟨fun i _ => i < n, fun i H x H' => H' = H ∧ x = .int (lo + i), fun i _ => n ≤ i⟩
theorem turn_list {P : Program} {w : World} {K : PySem.W.Frag} {tg : Expr} (a it : Addr) : Turn P w K tg (Itl K a) [it] it (fun i h => h.IsListIter it a i) where
  mem := by simp
  obj := fun i h st b hb => by
    have e : b = it := by simpa using hb
    subst e
    obtain ⟨o, e, c, d⟩ := st
    exact ⟨o, e, fun v z => by rw [d] at z; cases z⟩
  keep := fun i h h' st k => st.at fun o e => k it (by simp) o e
  item := by
    intro X hP hw hK hc i pins s σ H E I hf st hg
    subst hP hw hK
    obtain ⟨xs, x, hq, hx⟩ := hg
    obtain ⟨its, rv, p, hz⟩ := I.list hq
    obtain ⟨u, hu, ru⟩ := rv.get hx
    obtain ⟨f0, f1, f2, f3, f4, f5⟩ := hf it (by simp)
    refine wpAny_pyNext_list_item st p.isList (x := u) (by simpa using hu) fun h' st' sb => ?_
    have I1 : Inv X pins σ H { s with heap := h' } := I.turned (t' := s.toks) (fun b o hb e => (sb.2 b hb).trans e) f0 f1 f3 f4 f5
    obtain ⟨o, e, c, d⟩ := id st'
    exact ⟨u, rfl, go_of (s := { s with heap := h' }) e c d (by decide) ⟨x, H, I1, ru, ⟨rfl, fun ys hy => by rw [I.list_inj hy hq]; exact hx⟩, st', fun b hb => (hf b hb).1⟩⟩
  done := by
    intro X hP hw hK hc i pins s σ H E I hf st hg
    subst hP hw hK
    obtain ⟨xs, hq, hx⟩ := hg
    obtain ⟨its, rv, p, hz⟩ := I.list hq
    obtain ⟨f0, f1, f2, f3, f4, f5⟩ := hf it (by simp)
    have hl := rv.length
    exact wpAny_pyNext_list_end (I.ok.hd hc) st p.isList (by simp; omega) fun h' eb => ⟨rfl, I.turned (t' := s.toks) (fun b o hb e => eb b o hb e) f0 f1 f3 f4 f5⟩
  self := fun _ _ _ _ _ st h => wpAny_pyIter_listiter st h
theorem turn_tuple {P : Program} {w : World} {K : PySem.W.Frag} {tg : Expr} (a it : Addr) : Turn P w K tg (Itt K a) [it] it (fun i h => h.IsTupleIter it a i) where
  mem := by simp
  obj := fun i h st b hb => by
    have e : b = it := by simpa using hb
    subst e
    obtain ⟨o, e, c, d⟩ := st
    exact ⟨o, e, fun v z => by rw [d] at z; cases z⟩
  keep := fun i h h' st k => st.at fun o e => k it (by simp) o e
  item := by
    intro X hP hw hK hc i pins s σ H E I hf st hg
    subst hP hw hK
    obtain ⟨xs, x, hq, hx⟩ := hg
    obtain ⟨its, rv, p, hz⟩ := I.tuple hq
    obtain ⟨u, hu, ru⟩ := rv.get hx
    obtain ⟨f0, f1, f2, f3, f4, f5⟩ := hf it (by simp)
    refine wpAny_pyNext_tuple_item st (show s.heap.IsTuple a its.toArray from p) (x := u) (by simpa using hu) fun h' st' sb => ?_
    have I1 : Inv X pins σ H { s with heap := h' } := I.turned (t' := s.toks) (fun b o hb e => (sb.2 b hb).trans e) f0 f1 f3 f4 f5
    obtain ⟨o, e, c, d⟩ := id st'
    exact ⟨u, rfl, go_of (s := { s with heap := h' }) e c d (by decide) ⟨x, H, I1, ru, ⟨rfl, fun ys hy => by rw [I.tuple_inj hy hq]; exact hx⟩, st', fun b hb => (hf b hb).1⟩⟩
  done := by
    intro X hP hw hK hc i pins s σ H E I hf st hg
    subst hP hw hK
    obtain ⟨xs, hq, hx⟩ := hg
    obtain ⟨its, rv, p, hz⟩ := I.tuple hq
    obtain ⟨f0, f1, f2, f3, f4, f5⟩ := hf it (by simp)
    have hl := rv.length
    exact wpAny_pyNext_tuple_end (I.ok.hd hc) st (show s.heap.IsTuple a its.toArray from p) (by simp; omega) fun h' eb => ⟨rfl, I.turned (t' := s.toks) (fun b o hb e => eb b o hb e) f0 f1 f3 f4 f5⟩
  self := fun _ _ _ _ _ st h => wpAny_pyIter_tupleiter st h
theorem turn_range {P : Program} {w : World} {K : PySem.W.Frag} {tg : Expr} (it : Addr) (lo : Int) (n : Nat) : Turn P w K tg (Itr lo n) [it] it (fun i h => IsRangeIter h it (lo + (i : Nat) * 1) ((n : Int) - (i : Nat)) 1) where
  mem := by simp
  obj := fun i h st b hb => by
    have e : b = it := by simpa using hb
    subst e
    exact ⟨_, st, fun v z => by
      have z' : Data.fields _ = Data.cell v := z
      cases z'⟩
  keep := fun i h h' st k => k it (by simp) _ st
  item := by
    intro X hP hw hK hc i pins s σ H E I hf st hg
    subst hP hw hK
    obtain ⟨f0, f1, f2, f3, f4, f5⟩ := hf it (by simp)
    have W := Walks.range (prog := X.prog) (w := X.w) (I.ok.hd hc) it lo 1 n
    refine up (W.item i s _ _ hg st fun v h' tk hv st' kk hk => ?_)
    obtain ⟨t, rfl⟩ := hv
    have I1 : Inv X pins σ H { s with heap := h', toks := tk } := I.turned (fun b o hb e => kk b o (by simpa using hb) e) f0 f1 f3 f4 f5
    refine ⟨_, rfl, go_of (s := { s with heap := h', toks := tk }) (n := "range_iterator") st' rfl rfl (by decide) ⟨.int (lo + i), H, I1, ⟨t, ?_⟩, ⟨rfl, rfl⟩, st', fun b hb => (hf b hb).1⟩⟩
    rw [Int.mul_one]
  done := by
    intro X hP hw hK hc i pins s σ H E I hf st hg
    subst hP hw hK
    obtain ⟨f0, f1, f2, f3, f4, f5⟩ := hf it (by simp)
    exact wpAny_pyNext_range_end (I.ok.hd hc) st (by have : n ≤ i := hg; omega) fun h' eb => ⟨rfl, I.turned (t' := s.toks) (fun b o hb e => eb b o hb e) f0 f1 f3 f4 f5⟩
  self := fun _ _ _ _ _ st h => wpAny_pyIter_rangeiter st h
end L2

namespace L2
variable {nk : Nat}
open PySem PySem.Spec PyProof.Rows
section
variable {X : Cx} {tg : Expr}
def iList (K : PySem.W.Frag) (tl : TE) : TI := fun σ H R => tl σ H fun x H1 => ∃ a, x = .ref a ∧ (∃ xs, SqL K H1 a xs) ∧ R (Itl K a) H1
def iTup (K : PySem.W.Frag) (tl : TE) : TI := fun σ H R => tl σ H fun x H1 => ∃ a, x = .ref a ∧ (∃ xs, SqT K H1 a xs) ∧ R (Itt K a) H1
theorem pi_list {l : Expr} {tl : TE} (hl : PE X l tl) : PI X tg l (iList X.K tl) := by
  intro pins s σ H R I h
  refine thu (hl pins s σ H _ I h) fun v s1 kt1 ⟨x, H1, I1, r1, q1⟩ => ?_
  obtain ⟨a, e, ⟨xs, hq⟩, q⟩ := q1
  subst e
  cases r1
  obtain ⟨its, rv, p, hz⟩ := I1.list hq
  refine wpAny_pyIter_list p.isList ?_
  refine ⟨s1.heap.objs.size, [s1.heap.objs.size], _, _, H1, rfl, I1.kept (t' := s1.toks) fun b o e => Heap.get?_push_of_some _ e, turn_list a _, ⟨_, Heap.get?_push_size _ rfl, rfl, rfl⟩, fun b hb => ?_, q⟩
  have e : b = s1.heap.objs.size := by simpa using hb
  subst e
  exact I1.fpOk (Nat.le_refl _) (I1.hok.fresh (Nat.le_refl _))
theorem pi_tup {l : Expr} {tl : TE} (hl : PE X l tl) : PI X tg l (iTup X.K tl) := by
  intro pins s σ H R I h
  refine thu (hl pins s σ H _ I h) fun v s1 kt1 ⟨x, H1, I1, r1, q1⟩ => ?_
  obtain ⟨a, e, ⟨xs, hq⟩, q⟩ := q1
  subst e
  cases r1
  obtain ⟨its, rv, p, hz⟩ := I1.tuple hq
  refine wpAny_pyIter_tuple (show s1.heap.IsTuple a its.toArray from p) ?_
  refine ⟨s1.heap.objs.size, [s1.heap.objs.size], _, _, H1, rfl, I1.kept (t' := s1.toks) fun b o e => Heap.get?_push_of_some _ e, turn_tuple a _, ⟨_, Heap.get?_push_size _ rfl, rfl, rfl⟩, fun b hb => ?_, q⟩
  have e : b = s1.heap.objs.size := by simpa using hb
  subst e
  exact I1.fpOk (Nat.le_refl _) (I1.hok.fresh (Nat.le_refl _))
/-- a range object just made, walked -/
theorem range_it {pins : List (Addr × Obj)} {σ : St} {H : Hp} {s : Shared} {R : It → Hp → Prop} {E : Value → Shared → Prop} {lo hi : Int} {t u v : Tok} {tk : Nat} (I : Inv X pins σ H s) (hk : s.toks ≤ tk) (h1 : -(2 ^ 62) ≤ lo) (h2 : lo < 2 ^ 62) (h3 : -(2 ^ 62) ≤ hi) (h4 : hi < 2 ^ 62)
    (q : R (Itr lo (hi - lo).toNat) H) : wpAny (model X.prog X.w) X.A (pyIter (.ref s.heap.objs.size)) (PIE X pins σ tg R) E { s with heap := s.heap.push { cls := .type "range", data := .fields #[.int lo t, .int hi u, .int 1 v] }, toks := tk } := by
  refine wpAny_pyIter_range (IsRange.new ..) (small_one h1 h2 h3 h4) ?_
  have I1 : Inv X pins σ H { s with heap := s.heap.push { cls := .type "range", data := .fields #[.int lo t, .int hi u, .int 1 v] }, toks := tk } := I.kept fun b o e => Heap.get?_push_of_some _ e
  refine ⟨(s.heap.push { cls := .type "range", data := .fields #[.int lo t, .int hi u, .int 1 v] }).objs.size, [(s.heap.push { cls := .type "range", data := .fields #[.int lo t, .int hi u, .int 1 v] }).objs.size], _, _, H, rfl,
    I1.kept (t' := tk) fun b o e => Heap.get?_push_of_some _ e, turn_range _ lo (hi - lo).toNat, ?_, fun b hb => ?_, q⟩
  · have e1 : lo + ((0 : Nat) : Int) * 1 = lo := by simp
    have e2 : (((hi - lo).toNat : Nat) : Int) - ((0 : Nat) : Int) = Builtin.Range.rangeSize lo hi 1 := by rw [rangeSize_one]; split <;> omega
    show IsRangeIter _ _ (lo + ((0 : Nat) : Int) * 1) ((((hi - lo).toNat : Nat) : Int) - ((0 : Nat) : Int)) 1
    rw [e1, e2]
    exact Heap.get?_push_size _ rfl
  · have e : b = (s.heap.push { cls := .type "range", data := .fields #[.int lo t, .int hi u, .int 1 v] }).objs.size := by simpa using hb
    subst e
    exact I1.fpOk (Nat.le_refl _) (I1.hok.fresh (Nat.le_refl _))
def iRng1 (ta : TA) : TI := fun σ H R => ta σ H fun vs H1 => ∃ j : Int, vs = [.int j] ∧ -(2 ^ 62) ≤ j ∧ j < 2 ^ 62 ∧ R (Itr 0 j.toNat) H1
theorem pi_range1 {a : Expr} {ta : TA} {p pos : Pos} (hg : Gl X "range") (hm : X.mg "range" = none) (ha : PA X [a] ta) (hs : starEach [a] X.env = [(false, eval a X.env)] := by rfl) : PI X tg (.Call (.Name "range" p) [a] [] pos) (iRng1 ta) := by
  intro pins s σ H R I h
  refine Call_ (ld_blt I hg hm boot_range (PyProof.Rows.callWith_type1 (thu (ha pos pins s σ H _ I h) fun us s1 kt1 ⟨vs, H1, I1, r1, q1⟩ => ?_) hs rfl))
  obtain ⟨j, e, q1, q2, q⟩ := q1
  subst e
  cases r1 with
  | cons r rr =>
    cases rr
    obtain ⟨t, rfl⟩ := r
    exact call_range_1 (range_it I1 (by first | exact Nat.le_refl _ | exact Nat.le_succ _ | assumption | omega) (by omega) (by omega) q1 q2 (by simpa using q))
/-- W: the invariant by the turn and a measure; N: what the body is to reach -/
def tFor (wi : TI) (g : TG) (tb : TS) : TS := fun D σ H => wi σ H fun J H1 => ∃ W : Nat → Nat → St → Hp → Prop, (∃ m, W 0 m σ H1) ∧ ∀ i m σ H, W i m σ H →
  (J.stop i H ∧ D.nx σ H) ∨ (J.go i H ∧ ∃ N : St → Hp → Prop, (∀ σ' H', N σ' H' → ∃ m', m' < m ∧ W (i + 1) m' σ' H') ∧ ∀ x H', J.yld i H x H' → g x σ H' fun σ2 H2 => tb { D with nx := N, ct := N, bk := D.nx } σ2 H2)
/-- the records at fp as they stand -/
def pinsAt (fp : List Addr) (h : Heap) : List (Addr × Obj) := fp.filterMap fun b => (h.get? b).map fun o => (b, o)
theorem mem_pinsAt {fp : List Addr} {h : Heap} {b : Addr} {o : Obj} (hb : b ∈ fp) (e : h.get? b = some o) : (b, o) ∈ pinsAt fp h := List.mem_filterMap.mpr ⟨b, hb, by rw [e]; rfl⟩
theorem of_pinsAt {fp : List Addr} {h : Heap} {p : Addr × Obj} (hp : p ∈ pinsAt fp h) : p.1 ∈ fp ∧ h.get? p.1 = some p.2 := by
  obtain ⟨b, hb, e⟩ := List.mem_filterMap.mp hp
  cases q : h.get? b with
  | none => rw [q] at e; cases e
  | some o =>
    rw [q] at e
    have e' : (b, o) = p := Option.some.inj e
    subst e'
    exact ⟨hb, q⟩
theorem Inv.pinned {pins : List (Addr × Obj)} {σ : St} {H : Hp} {s : Shared} {fp : List Addr} (I : Inv X pins σ H s) (hf : ∀ b ∈ fp, FpOk X pins H b) (ho : ∀ b ∈ fp, ∃ o, s.heap.get? b = some o ∧ ∀ v, o.data ≠ .cell v) : Inv X (pins ++ pinsAt fp s.heap) σ H s :=
  I.pins_of fun p hp => (List.mem_append.mp hp).elim (fun z => I.pin p (List.mem_append_right _ z)) fun z => by
    obtain ⟨hb, e⟩ := of_pinsAt z
    obtain ⟨f0, f1, f2, _⟩ := hf p.1 hb
    obtain ⟨o, e', d⟩ := ho p.1 hb
    rw [e] at e'; cases e'
    exact ⟨e, f0, f1, f2, d⟩
theorem Inv.unpinned {pins pl : List (Addr × Obj)} {σ : St} {H : Hp} {s : Shared} (I : Inv X (pins ++ pl) σ H s) : Inv X pins σ H s := I.pins_of fun p hp => I.pin p (List.mem_append_right _ (List.mem_append_left _ hp))
theorem ps_for {iter : Expr} {body : List Stmt} {wi : TI} {g : TG} {tb : TS} {pos : Pos} (hp : PassesOwn (model X.prog X.w) X.A X.env X.xe) (hc : X.calm = true) (hi : PI X tg iter wi) (hg : PG X tg g) (hb : PSs X body tb)
    (hs : ∀ x, foldedSetIterable iter X.env x = pure x := by intro _; rfl) : PS X (.For tg iter body [] pos) (tFor wi g tb) := by
  intro pins s σ H D I h
  refine wpAny_For (thn (hi pins s σ H _ I h) fun v s1 h1 => thn h1 fun itv s2 h2 => ?_) hs
  obtain ⟨it, fp, tn, J, H2, e, I2, T, st2, f2, W, ⟨m0, w0⟩, turn⟩ := h2
  subst e
  -- what stays true of the iterator's objects through the loop
  have stat : ∀ {H' : Hp}, (∀ b ∈ fp, H' b = none) → ∀ b ∈ fp, FpOk X pins H' b := fun hn b hb => ⟨hn b hb, (f2 b hb).2⟩
  refine codeAny_forLoop_any (fun n s' => ∃ i σ' H', Inv X pins σ' H' s' ∧ tn i s'.heap ∧ (∀ b ∈ fp, H' b = none) ∧ W i n σ' H') ?_ m0 ⟨0, σ, H2, I2, st2, fun b hb => (f2 b hb).1, w0⟩
  rintro n s3 ⟨i, σ3, H3, I3, st3, fr3, w3⟩
  rcases turn i n σ3 H3 w3 with ⟨stop, qn⟩ | ⟨go, N, hN, step⟩
  · refine wpAny_passesOwn hp (thu (T.done X rfl rfl rfl hc i pins s3 σ3 H3 X.xe I3 (stat fr3) st3 stop) fun r s4 kt4 ⟨hr, I4⟩ => ?_)
    subst hr
    exact wpAny_execs_nil ⟨σ3, H3, I4, qn⟩
  · refine wpAny_passesOwn hp (thu (T.item X rfl rfl rfl hc i pins s3 σ3 H3 X.xe I3 (stat fr3) st3 go) fun r s4 kt4 ⟨u, hr, h4⟩ => ?_)
    subst hr
    refine wpAny_passesOwn hp (thn h4 fun _ s5 ⟨x, H5, I5, r5, y5, st5, fr5⟩ => ?_)
    have I5' := I5.pinned (stat fr5) (T.obj _ _ st5)
    refine wpAny_passesOwn hp (thu (hg _ s5 σ3 H5 x u _ I5' r5 (step x H5 y5)) fun _ s6 kt6 ⟨σ6, H6, I6, q6⟩ => ?_)
    refine wpAny_passesOwn hp (thn (hb _ s6 σ6 H6 _ I6 q6) fun f s7 q7 => ?_)
    have again : ∀ {σ7 : St} {H7 : Hp}, Inv X (pins ++ pinsAt fp s5.heap) σ7 H7 s7 → N σ7 H7 → ∃ m, m < n ∧ ∃ i σ' H', Inv X pins σ' H' s7 ∧ tn i s7.heap ∧ (∀ b ∈ fp, H' b = none) ∧ W i m σ' H' := fun {σ7 H7} I7 n7 => by
      obtain ⟨m', hm, w7⟩ := hN σ7 H7 n7
      refine ⟨m', hm, i + 1, σ7, H7, I7.unpinned, T.keep _ _ _ st5 fun b hb o e => (I7.pin (b, o) (List.mem_append_right _ (List.mem_append_right _ (mem_pinsAt hb e)))).1, fun b hb => ?_, w7⟩
      obtain ⟨o, e, d⟩ := T.obj _ _ st5 b hb
      exact (I7.pin (b, o) (List.mem_append_right _ (List.mem_append_right _ (mem_pinsAt hb e)))).2.1
    cases f with
    | next => obtain ⟨σ7, H7, I7, n7⟩ := q7; exact again I7 n7
    | cont => obtain ⟨σ7, H7, I7, n7⟩ := q7; exact again I7 n7
    | brk => obtain ⟨σ7, H7, I7, q7⟩ := q7; exact ⟨σ7, H7, I7.unpinned, q7⟩
    | ret v => obtain ⟨x7, σ7, H7, I7, r7, q7⟩ := q7; exact ⟨x7, σ7, H7, I7.unpinned, r7, q7⟩
end

end L2

namespace L2
variable {nk : Nat}
open PySem PySem.Spec PyProof.Rows

abbrev R2 := V → V → Hp → VK → Prop
/-- a two-place operation on values: f is binaryOp op, inplaceOp op or compareOp op -/
def OpR (X : Cx) (f : Value → Value → Sem Value) (r : R2) : Prop :=
  ∀ (pins : List (Addr × Obj)) (s : Shared) (σ : St) (H : Hp) (x y : V) (v u : Value) (Q : VK), Inv X pins σ H s → RelV s.toks x v → RelV s.toks y u → r x y H Q →
    wpAny (model X.prog X.w) X.A (f v u) (EP X pins σ Q) X.xe s
/-- a one-place operation -/
def UnR (X : Cx) (f : Value → Sem Value) (r : V → Hp → VK → Prop) : Prop :=
  ∀ (pins : List (Addr × Obj)) (s : Shared) (σ : St) (H : Hp) (x : V) (v : Value) (Q : VK), Inv X pins σ H s → RelV s.toks x v → r x H Q →
    wpAny (model X.prog X.w) X.A (f v) (EP X pins σ Q) X.xe s
/-- a call of a value that is known (a builtin, a type) with values -/
def CallR (X : Cx) (f : Value) (r : List V → Hp → VK → Prop) : Prop :=
  ∀ (pins : List (Addr × Obj)) (s : Shared) (σ : St) (H : Hp) (xs : List V) (us : List Value) (Q : VK), Inv X pins σ H s → Vals s.toks xs us → r xs H Q →
    wpAny (model X.prog X.w) X.A (call f us) (EP X pins σ Q) X.xe s
def tOp (r : R2) (ta tb : TE) : TE := fun σ H Q => ta σ H fun x H1 => tb σ H1 fun y H2 => r x y H2 Q
def tUn (r : V → Hp → VK → Prop) (ta : TE) : TE := fun σ H Q => ta σ H fun x H1 => r x H1 Q
/-- ints in, under C, and a value out -/
def rI (C : Int → Int → Prop) (g : Int → Int → V) : R2 := fun x y H Q => ∃ i j, x = .int i ∧ y = .int j ∧ C i j ∧ Q (g i j) H
def rI0 (g : Int → Int → V) : R2 := fun x y H Q => ∃ i j, x = .int i ∧ y = .int j ∧ Q (g i j) H
def rU (g : Int → V) : V → Hp → VK → Prop := fun x H Q => ∃ i, x = .int i ∧ Q (g i) H

section
variable {X : Cx} {a b c : Expr} {ta tb tc : TE} {pos : Pos}

theorem binT (ha : PE X a ta) (hb : PE X b tb) {pins : List (Addr × Obj)} {s : Shared} {σ : St} {H : Hp} {R : V → V → Hp → Prop} (I : Inv X pins σ H s)
    (h : ta σ H fun x H1 => tb σ H1 fun y H2 => R x y H2) {Q : Value → Shared → Prop} {f : Value → Value → Sem Value}
    (hf : ∀ v u s2 x y H2, Inv X pins σ H2 s2 → RelV s2.toks x v → RelV s2.toks y u → R x y H2 → wpAny (model X.prog X.w) X.A (f v u) Q X.xe s2) :
    wpAny (model X.prog X.w) X.A (eval a X.env) (fun v s₁ => wpAny (model X.prog X.w) X.A (eval b X.env) (fun u s₂ => wpAny (model X.prog X.w) X.A (f v u) Q X.xe s₂) X.xe s₁) X.xe s := by
  refine thu (ha pins s σ H _ I h) fun v s1 kt1 ⟨x, H1, I1, r1, q1⟩ => ?_
  refine thu (hb pins s1 σ H1 _ I1 q1) fun u s2 kt2 ⟨y, H2, I2, r2, q2⟩ => ?_
  exact hf v u s2 x y H2 I2 (r1.up kt2) r2 q2

theorem pe_op {op : Operator} {r : R2} (ho : OpR X (binaryOp op) r) (ha : PE X a ta) (hb : PE X b tb) : PE X (.BinOp a op b pos) (tOp r ta tb) := by
  intro pins s σ H Q I h
  exact wpAny_BinOp (binT ha hb I h fun v u s2 x y H2 I2 rx ry q => ho pins s2 σ H2 x y v u Q I2 rx ry q)
theorem pe_un {op : UnaryOp} {r : V → Hp → VK → Prop} (ho : UnR X (unaryOp op) r) (ha : PE X a ta) : PE X (.UnaryOp op a pos) (tUn r ta) := by
  intro pins s σ H Q I h
  exact UnaryOp_ (thu (ha pins s σ H _ I h) fun v s1 kt1 ⟨x, H1, I1, r1, q1⟩ => ho pins s1 σ H1 x v Q I1 r1 q1)
theorem opI {f : Value → Value → Sem Value} {C : Int → Int → Prop} {g : Int → Int → Int}
    (rule : ∀ (i j : Int) (t u : Tok) (s : Shared) (Q : Value → Shared → Prop) (E : Value → Shared → Prop), C i j → Q (.int (g i j) s.toks) { s with toks := s.toks + 1 } → wpAny (model X.prog X.w) X.A (f (.int i t) (.int j u)) Q E s) :
    OpR X f (rI C fun i j => .int (g i j)) := by
  intro pins s σ H x y v u Q I rx ry h
  obtain ⟨i, j, rfl, rfl, hc, q⟩ := h
  obtain ⟨t, rfl⟩ := rx
  obtain ⟨t', rfl⟩ := ry
  exact rule i j t t' s _ _ hc ⟨.int (g i j), H, I.tok _, ⟨_, rfl⟩, q⟩
theorem opI0 {f : Value → Value → Sem Value} {g : Int → Int → Int}
    (rule : ∀ (i j : Int) (t u : Tok) (s : Shared) (Q : Value → Shared → Prop) (E : Value → Shared → Prop), Q (.int (g i j) s.toks) { s with toks := s.toks + 1 } → wpAny (model X.prog X.w) X.A (f (.int i t) (.int j u)) Q E s) :
    OpR X f (rI0 fun i j => .int (g i j)) := by
  intro pins s σ H x y v u Q I rx ry h
  obtain ⟨i, j, rfl, rfl, q⟩ := h
  obtain ⟨t, rfl⟩ := rx
  obtain ⟨t', rfl⟩ := ry
  exact rule i j t t' s _ _ ⟨.int (g i j), H, I.tok _, ⟨_, rfl⟩, q⟩
theorem opB0 {f : Value → Value → Sem Value} {g : Int → Int → Bool}
    (rule : ∀ (i j : Int) (t u : Tok) (s : Shared) (Q : Value → Shared → Prop) (E : Value → Shared → Prop), Q (.bool (g i j)) s → wpAny (model X.prog X.w) X.A (f (.int i t) (.int j u)) Q E s) :
    OpR X f (rI0 fun i j => .bl (g i j)) := by
  intro pins s σ H x y v u Q I rx ry h
  obtain ⟨i, j, rfl, rfl, q⟩ := h
  obtain ⟨t, rfl⟩ := rx
  obtain ⟨t', rfl⟩ := ry
  exact rule i j t t' s _ _ ⟨.bl (g i j), H, I, rfl, q⟩

def CDiv (i j : Int) : Prop := 0 < j ∧ j < 1073741824
def CPow (i j : Int) : Prop := 0 ≤ j ∧ j ≤ 1000000 ∧ i.natAbs < 2 ^ 64
def CMul (i j : Int) : Prop := (-(2 ^ 64) < i ∧ i < 2 ^ 64) ∨ (-(2 ^ 64) < j ∧ j < 2 ^ 64)
theorem CMul.ok {i j : Int} (h : CMul i j) : IntMulOk i j := by
  rcases h with ⟨h1, h2⟩ | ⟨h1, h2⟩
  · exact .of_left (intBits_le_64 h1 h2)
  · exact .of_right (intBits_le_64 h1 h2)
theorem two_pow_nn (k : Nat) : (0 : Int) ≤ 2 ^ k := by
  rw [two_pow_cast]
  exact Int.natCast_nonneg _

theorem op_add : OpR X (binaryOp .Add) (rI0 fun i j => .int (i + j)) := opI0 fun _ _ _ _ _ _ _ q => add_int q
theorem op_sub : OpR X (binaryOp .Sub) (rI0 fun i j => .int (i - j)) := opI0 fun _ _ _ _ _ _ _ q => sub_int q
theorem op_mul : OpR X (binaryOp .Mult) (rI CMul fun i j => .int (i * j)) := opI fun _ _ _ _ _ _ _ hc q => mul_int q hc.ok
/-- // by a positive divisor -/
theorem op_fdiv : OpR X (binaryOp .FloorDiv) (rI CDiv fun i j => .int (i / j)) := opI fun i j _ _ _ _ _ hc q => by
  have h1 : (0 : Int) < j := hc.1
  have h2 : j < 1073741824 := hc.2
  exact floordiv_int (by omega) (by rw [Int.fdiv_eq_ediv_of_nonneg i (by omega)]; exact q) (.inl (PyProof.noPylong_small (by omega)))
/-- % by a positive divisor of any size -/
theorem op_mod : OpR X (binaryOp .Mod) (rI (fun _ j => 0 < j) fun i j => .int (i % j)) := opI fun i j _ _ _ _ _ hc q => by
  have h1 : (0 : Int) < j := hc
  exact mod_int' (by omega) (by rw [Int.fmod_eq_emod_of_nonneg i (by omega)]; exact q)
theorem op_pow : OpR X (binaryOp .Pow) (rI CPow fun i j => .int (i ^ j.toNat)) := opI fun _ _ _ _ _ _ _ hc q => pow_int_small hc.1 hc.2.1 hc.2.2 q
theorem op_shr : OpR X (binaryOp .RShift) (rI (fun _ j => 0 ≤ j) fun i j => .int (i / 2 ^ j.toNat)) := opI fun i j _ _ _ _ _ hc q =>
  rshift_int hc (by rw [Int.fdiv_eq_ediv_of_nonneg i (two_pow_nn _)]; exact q)
theorem op_and : OpR X (binaryOp .BitAnd) (rI0 fun i j => .int (Builtin.bitAnd i j)) := opI0 fun _ _ _ _ _ _ _ q => and_int q
theorem unI {f : Value → Sem Value} {g : Int → Int}
    (rule : ∀ (i : Int) (t : Tok) (s : Shared) (Q : Value → Shared → Prop) (E : Value → Shared → Prop), Q (.int (g i) s.toks) { s with toks := s.toks + 1 } → wpAny (model X.prog X.w) X.A (f (.int i t)) Q E s) :
    UnR X f (rU fun i => .int (g i)) := by
  intro pins s σ H x v Q I rx h
  obtain ⟨i, rfl, q⟩ := h
  obtain ⟨t, rfl⟩ := rx
  exact rule i t s _ _ ⟨.int (g i), H, I.tok _, ⟨_, rfl⟩, q⟩
theorem un_neg : UnR X (unaryOp .USub) (rU fun i => .int (-i)) := unI fun _ _ _ _ _ q => neg_int q
end

section
variable {X : Cx} {a b c : Expr} {ta tb tc : TE} {pos : Pos}
theorem fin_bl {pins : List (Addr × Obj)} {σ : St} {H : Hp} {s : Shared} {Q : VK} {k k' : Bool} (I : Inv X pins σ H s) (q : Q (.bl k) H) (e : k = k') : EP X pins σ Q (.bool k') s := by
  subst e
  exact ⟨.bl k, H, I, rfl, q⟩
theorem op_lt : OpR X (compareOp .Lt) (rI0 fun i j => .bl (decide (i < j))) := opB0 fun _ _ _ _ _ _ _ q => lt_int q
theorem op_le : OpR X (compareOp .LtE) (rI0 fun i j => .bl (decide (i ≤ j))) := opB0 fun _ _ _ _ _ _ _ q => le_int q
theorem op_gt : OpR X (compareOp .Gt) (rI0 fun i j => .bl (decide (j < i))) := opB0 fun _ _ _ _ _ _ _ q => gt_int q
theorem op_ge : OpR X (compareOp .GtE) (rI0 fun i j => .bl (decide (j ≤ i))) := opB0 fun _ _ _ _ _ _ _ q => ge_int q
/-- the one string within the other -/
theorem op_in_str : OpR X (compareOp .In) (fun x y H Q => ∃ i j, x = .str i ∧ y = .str j ∧ Q (.bl (!(Builtin.Str.occurrences j i 0 j.length 1).isEmpty)) H) := by
  intro pins s σ H x y v u Q I rx ry h
  obtain ⟨i, j, rfl, rfl, q⟩ := h
  obtain ⟨t, rfl⟩ := rx
  obtain ⟨t', rfl⟩ := ry
  exact in_str (fin_bl I q rfl)

/-- two rules for one operation: by cases -/
theorem OpR.or {f : Value → Value → Sem Value} {r r' : R2} (h : OpR X f r) (h' : OpR X f r') : OpR X f (fun x y H Q => r x y H Q ∨ r' x y H Q) := by
  intro pins s σ H x y v u Q I rx ry q
  rcases q with q | q
  · exact h pins s σ H x y v u Q I rx ry q
  · exact h' pins s σ H x y v u Q I rx ry q

theorem nomark (b : Expr) {op : CmpOp} (h : op ≠ .In := by decide) (h2 : op ≠ .NotIn := by decide) : behindInMarks op b = false := by
  have e1 : (op == CmpOp.In) = false := by cases op <;> first | rfl | exact absurd rfl h
  have e2 : (op == CmpOp.NotIn) = false := by cases op <;> first | rfl | exact absurd rfl h2
  cases b <;> simp [behindInMarks, e1, e2]
/-- a comparison as a value; hm: nomark b, or (for in, not in) by with_unfolding_all rfl -/
theorem pe_cmpR {op : CmpOp} {r : R2} (ho : OpR X (compareOp op) r) (ha : PE X a ta) (hb : PE X b tb) (hm : behindInMarks op b = false) : PE X (.Compare a [op] [b] pos) (tOp r ta tb) := by
  intro pins s σ H Q I h
  exact wpAny_Compare1 (binT ha hb I h fun v u s2 x y H2 I2 rx ry q => ho pins s2 σ H2 x y v u Q I2 rx ry q) hm
/-- a reading of a value as a test -/
def tTest (t : TE) : TT := fun σ H Q => t σ H fun x H' => ∃ k, x = .bl k ∧ Q k H'
theorem pt_cmpR {op : CmpOp} {r : R2} (ho : OpR X (compareOp op) r) (ha : PE X a ta) (hb : PE X b tb) (hm : behindInMarks op b = false) : PT X (.Compare a [op] [b] pos) (tTest (tOp r ta tb)) := by
  intro pins s σ H Q I h
  refine wpAny_isTrue_Compare1 (thu (ha pins s σ H _ I h) fun v s1 kt1 ⟨x, H1, I1, r1, q1⟩ => thu (hb pins s1 σ H1 _ I1 q1) fun u s2 kt2 ⟨y, H2, I2, r2, q2⟩ =>
    thu (ho pins s2 σ H2 x y v u _ I2 (r1.up kt2) r2 q2) fun c s3 kt3 ⟨z, H3, I3, r3, k, e, q3⟩ => ?_) hm
  subst e
  cases r3
  exact wpAny_truthy_bool ⟨H3, I3, q3⟩
theorem line63 : (sizeLine : Nat) < 2 ^ 63 := by rw [sizeLine_eq]; decide
theorem Inv.addS {pins : List (Addr × Obj)} {σ : St} {H : Hp} {s : Shared} {Q : VK} {i j : Str} {t : Tk s.toks i} {t' : Tk s.toks j} (I : Inv X pins σ H s) (q : Q (.str (i ++ j)) H) (hz : i.length + j.length ≤ sizeLine) :
    (if i.length == 0 then Made.val (.str j t'.1) else if j.length == 0 then Made.val (.str i t.1) else Made.str (i ++ j)).post (EP X pins σ Q) s := by
  split
  · rename_i h
    have e : i ++ j = j := by
      have h0 : i.cps = #[] := Array.eq_empty_of_size_eq_zero (by simpa [Str.length] using h)
      show Str.append i j = j
      cases hj : j; simp [Str.append, h0]
    rw [e] at q
    exact ⟨.str j, H, I, ⟨t', rfl⟩, q⟩
  · split
    · rename_i h
      have e : i ++ j = i := by
        have h0 : j.cps = #[] := Array.eq_empty_of_size_eq_zero (by simpa [Str.length] using h)
        show Str.append i j = i
        cases hj : i; simp [Str.append, h0]
      rw [e] at q
      exact ⟨.str i, H, I, ⟨t, rfl⟩, q⟩
    · exact ⟨by rw [strLen_append]; exact hz, ⟨.str (i ++ j), H, I.tok _, I.tkS, q⟩⟩
theorem op_add_str : OpR X (binaryOp .Add) (fun x y H Q => ∃ i j, x = .str i ∧ y = .str j ∧ i.length + j.length ≤ sizeLine ∧ Q (.str (i ++ j)) H) := by
  intro pins s σ H x y v u Q I rx ry h
  obtain ⟨i, j, rfl, rfl, hz, q⟩ := h
  obtain ⟨t, rfl⟩ := rx
  obtain ⟨t', rfl⟩ := ry
  exact PySem.P.add_str (I.addS q hz)
theorem vals1 {x : V} {us : List Value} (r : Vals nk [x] us) : ∃ u, us = [u] ∧ RelV nk x u := by
  cases r with
  | cons r1 r2 => cases r2; exact ⟨_, rfl, r1⟩
theorem call_int1 : CallR X (.type "int") (fun xs H Q => (∃ i, xs = [.int i] ∧ Q (.int i) H) ∨ ∃ k, xs = [.bl k] ∧ Q (.int (if k then 1 else 0)) H) := by
  intro pins s σ H xs us Q I r h
  rcases h with ⟨i, rfl, q⟩ | ⟨k, rfl, q⟩
  · obtain ⟨u, rfl, t, rfl⟩ := vals1 r
    exact call_int_int ⟨.int i, H, I, ⟨_, rfl⟩, q⟩
  · obtain ⟨u, rfl, r1⟩ := vals1 r
    cases r1
    exact call_int_bool ⟨.int (if k then 1 else 0), H, I.tok _, ⟨_, rfl⟩, q⟩
end
end L2

namespace L2
variable {nk : Nat}
open PySem PySem.Spec PyProof.Rows

structure ObjM (h : Heap) (x dx C : Addr) (mA : Str → Option Value) : Prop where
  obj : h.get? x = some (PySem.W.instObj C dx)
  ns : h.Ns1 dx mA
  ne : dx ≠ x

theorem lookIn_ns {h : Heap} {dx : Addr} {mA : Str → Option Value} (n : h.Ns1 dx mA) : ∃ od, h.get? dx = some od ∧ ∀ name, PySem.W.lookIn name od = some (mA name) := by
  obtain ⟨o, es, ep, ho, hd, hk, _, hm⟩ := n
  refine ⟨o, ho, fun name => ?_⟩
  have e := hm name
  unfold nsFind findBy at e
  rw [← Array.find?_toList] at e
  unfold PySem.W.lookIn
  rw [hd]
  dsimp only
  split
  · rename_i y q
    rw [q] at e
    exact congrArg some e
  · rename_i q
    rw [q] at e
    have a : es.toList.any (·.refKey) = false := by
      rw [List.any_eq_false]
      intro y hy
      obtain ⟨z, t, hkey⟩ := hk y (Array.mem_toList_iff.mp hy)
      simp [DictEntry.refKey, hkey]
    have a' : ¬ es.toList.any (·.refKey) = true := by rw [a]; exact Bool.false_ne_true
    rw [if_neg a']
    exact congrArg some e

theorem ObjM.look {h : Heap} {x dx C : Addr} {mA : Str → Option Value} (I : ObjM h x dx C mA) : ∃ od, PySem.W.InstAt h x (PySem.W.instObj C dx) C (some od) ∧ ∀ name, PySem.W.lookIn name od = some (mA name) :=
  let ⟨od, ho, hl⟩ := lookIn_ns I.ns
  ⟨od, ⟨I.obj, rfl, rfl, ho⟩, hl⟩

section
variable {prog : Program} {w : World} {A : Around} {E : Value → Shared → Prop} {s : Shared} {K : PySem.W.Frag} {x dx C f : Addr} {mA : Str → Option Value} {name : Str} {v : Value}

end

section
variable {P : Program} {w : World} {H H' : Hp} {h h' : Heap} {a C dx : Addr} {fs fs' : List (Str × V)}
theorem ins_get (hok : HOk P w nk H h) (e : H a = some (.ins C dx fs)) : ∃ mA, ObjM h a dx C mA ∧ (∀ f, RelO nk (fs.lookup f) (mA f)) ∧ PySem.Within mA (fs.map (·.1)) ∧ fs.length ≤ 1000 ∧ H dx = some (.own a) := by
  obtain ⟨d, z, ne, ob, mA, n, r, q⟩ := (show ObjOk P w _ H h a (.ins C dx fs) from hok a _ e)
  exact ⟨mA, ⟨ob, n, ne⟩, r, q, z, d⟩
end

structure Cls (K : PySem.W.Frag) (C : Addr) : Prop where
  pg : PySem.W.plainGet K C Str.empty = true
  hd : PySem.W.hasDictIn K C = true
  po : PySem.W.plainOver K C = true
  sa : PySem.W.findIn K (.ref C) "__setattr__" = some (some (.builtin "object.__setattr__"))
theorem Cls.get {K : PySem.W.Frag} {C : Addr} (c : Cls K C) (f : Str) : PySem.W.plainGet K C f = true := c.pg
section
variable {X : Cx} {pins : List (Addr × Obj)} {σ : St} {H : Hp} {s : Shared} {a C dx : Addr} {fs : List (Str × V)} {f : Str} {v : V} {A : Around} {E : Value → Shared → Prop}

/-- a new instance, tracked, without attributes -/
theorem Inv.made (I : Inv X pins σ H s) : Inv X pins σ (upd (upd H s.heap.objs.size (.own (s.heap.objs.size + 1))) (s.heap.objs.size + 1) (.ins C s.heap.objs.size []))
    { s with heap := (s.heap.push PySem.W.emptyDict).push (PySem.W.instObj C s.heap.objs.size) } := by
  have e1 : (s.heap.push PySem.W.emptyDict).get? s.heap.objs.size = some PySem.W.emptyDict := Heap.get?_push_size s.heap rfl
  have e2 : ((s.heap.push PySem.W.emptyDict).push (PySem.W.instObj C s.heap.objs.size)).get? (s.heap.objs.size + 1) = some (PySem.W.instObj C s.heap.objs.size) := by
    have := Heap.get?_push_size (s.heap.push PySem.W.emptyDict) (o := PySem.W.instObj C s.heap.objs.size) rfl
    rwa [Heap.size_push] at this
  have e3 : (s.heap.push PySem.W.emptyDict).Ns s.heap.objs.size (fun _ => none) := ⟨PySem.W.emptyDict, #[], _, e1, rfl, (fun e he => absurd he (by simp)), fun _ => rfl⟩
  have I1 := I.laid (a := s.heap.objs.size) (o := .own (s.heap.objs.size + 1)) (h' := s.heap.push PySem.W.emptyDict) (t' := s.toks) (fun b u q => Heap.get?_push_of_some _ q) (Nat.le_refl _) ⟨_, e1⟩
  refine I1.laid (a := s.heap.objs.size + 1) (o := .ins C s.heap.objs.size []) (t' := s.toks) (fun b u q => Heap.get?_push_of_some _ q) (Nat.le_of_eq (Heap.size_push _ _)) ?_
  have ne : s.heap.objs.size ≠ s.heap.objs.size + 1 := Nat.ne_of_lt (Nat.lt_succ_self _)
  refine ⟨by rw [upd_ne ne, upd_same], Nat.zero_le _, ne, e2, fun _ => none, (Heap.Ns1.of_empty e3).at fun o q => Heap.get?_push_of_some _ q, fun _ => True.intro, fun y hy => absurd rfl hy⟩

end

section
variable {X : Cx} {o e value : Expr} {f : Str} {pos pos' tpos : Pos} {ta tv : TE}
end

section
variable {X : Cx} {pins : List (Addr × Obj)} {σ : St} {H : Hp} {s : Shared} {A : Around} {E : Value → Shared → Prop} {Q : Value → Shared → Prop} {c : Value} {b : Bool}
/-- the type of a value, as the fragment's deciders take it; for an instance its class -/
inductive TyOf (K : PySem.W.Frag) (H : Hp) : V → Value → Prop where
  | non : TyOf K H .non (.type "NoneType")
  | bl (x : Bool) : TyOf K H (.bl x) (.type "bool")
  | int (i : Int) : TyOf K H (.int i) (.type "int")
  | str (x : Str) : TyOf K H (.str x) (.type "str")
  | flt (x : UInt64) : TyOf K H (.flt x) (.type "float")
  | lst {a : Addr} {xs : List V} (e : H a = some (.lst xs)) : TyOf K H (.ref a) (.type "list")
  | frz {a : Addr} {o : Obj} {xs : List V} (e : H a = some (.frz o (.lst xs))) : TyOf K H (.ref a) (.type "list")
  | tup {a : Addr} {xs : List V} (e : H a = some (.tup xs)) : TyOf K H (.ref a) (.type "tuple")
  | dK {a : Addr} {kvs : List (Key × V)} (e : H a = some (.dK kvs)) : TyOf K H (.ref a) (.type "dict")
  | dT {a : Addr} {kvs : List (List Key × V)} (e : H a = some (.dT kvs)) : TyOf K H (.ref a) (.type "dict")
  | ins {a C dx : Addr} {fs : List (Str × V)} (e : H a = some (.ins C dx fs)) (cl : Cls K C) (ha : PySem.W.findIn K (.ref C) "__class__" = some (some (.builtin "object.__class__")))
      (hn : PySem.W.specialIn K (.builtin "object.__class__") "__get__" = some (some (.builtin "getset_descriptor.__get__"))) (htk : PySem.W.takesIn K (.builtin "object.__class__") = some true)
      (hm : PySem.W.mroIn K C (.type "object") = some true) : TyOf K H (.ref a) (.ref C)
/-- isinstance(x, c) for one class c, a built-in or an own one: kitOne's answer -/
theorem isinst_ok {x : V} {u t : Value} (I : Inv X pins σ H s) (rx : RelV s.toks x u) (ty : TyOf X.K H x t) (e : PySem.W.kitOne X.K t c = some b) (h : ∀ tk, Q (.bool b) { s with toks := tk }) :
    wpAny (model X.prog X.w) A (call (.builtin "isinstance") [u, c]) Q E s := by
  cases ty with
  | non => cases (show u = Value.none from rx); exact PySem.W.kia_one PySem.W.kitx_none I.kIn True.intro e (fun z => nomatch z) h
  | bl y => cases (show u = Value.bool y from rx); exact PySem.W.kia_one PySem.W.kitx_bool I.kIn True.intro e (fun z => nomatch z) h
  | int i => obtain ⟨t, q⟩ := (show ∃ t, u = Value.int i t from rx); cases q; exact PySem.W.kia_one PySem.W.kitx_int I.kIn True.intro e (fun z => nomatch z) h
  | str y => obtain ⟨t, q⟩ := (show ∃ t : Tk _ y, u = Value.str y t.1 from rx); cases q; exact PySem.W.kia_one PySem.W.kitx_str I.kIn True.intro e (fun z => nomatch z) h
  | flt y => obtain ⟨t, q⟩ := (show ∃ t, u = Value.float y t from rx); cases q; exact PySem.W.kia_one PySem.W.kitx_float I.kIn True.intro e (fun z => nomatch z) h
  | @lst a xs ea =>
    cases (show u = Value.ref a from rx)
    obtain ⟨_, _, n, _, h1⟩ := (show ObjOk X.prog X.w _ H s.heap a (.lst xs) from I.hok a _ ea)
    exact PySem.W.kia_one PySem.W.kitx_list I.kIn ⟨_, h1, rfl⟩ e (fun z => nomatch z) h
  | @frz a ob xs ea =>
    cases (show u = Value.ref a from rx)
    obtain ⟨_, _, _, n, _, h1⟩ := (show ObjOk X.prog X.w _ H s.heap a (.frz ob (.lst xs)) from I.hok a _ ea)
    exact PySem.W.kia_one PySem.W.kitx_list I.kIn ⟨_, h1, rfl⟩ e (fun z => nomatch z) h
  | @tup a xs ea =>
    cases (show u = Value.ref a from rx)
    obtain ⟨_, _, _, p⟩ := (show ObjOk X.prog X.w _ H s.heap a (.tup xs) from I.hok a _ ea)
    obtain ⟨o, h1, h2, _⟩ := p
    exact PySem.W.kia_one PySem.W.kitx_tuple I.kIn ⟨o, h1, h2⟩ e (fun z => nomatch z) h
  | @dK a kvs ea =>
    cases (show u = Value.ref a from rx)
    obtain ⟨_, _, vs, _, p⟩ := (show ObjOk X.prog X.w _ H s.heap a (.dK kvs) from I.hok a _ ea)
    obtain ⟨o, es, ep, h1, h2, _⟩ := p
    exact PySem.W.kia_one PySem.W.kitx_dict I.kIn ⟨o, h1, h2.1⟩ e (fun z => nomatch z) h
  | @dT a kvs ea =>
    cases (show u = Value.ref a from rx)
    obtain ⟨_, _, xs, _, o, es, ep, h1, h2, _⟩ := (show ObjOk X.prog X.w _ H s.heap a (.dT kvs) from I.hok a _ ea)
    exact PySem.W.kia_one PySem.W.kitx_dict I.kIn ⟨o, h1, h2.1⟩ e (fun z => nomatch z) h
  | @ins a C dx fs ea cl ha hn htk hm =>
    cases (show u = Value.ref a from rx)
    obtain ⟨mA, O, _⟩ := ins_get I.hok ea
    obtain ⟨od, J, _⟩ := O.look
    exact PySem.W.kia_one (PySem.W.kitx_own (cl.get _) cl.hd ha hn htk hm) I.kIn J e (fun z => nomatch z) h
end
end L2

namespace L2
variable {nk : Nat}
open PySem PySem.Spec PyProof.Rows

structure Room (k : Nat) (A : Around) : Prop where
  hd : A.handled = none
  dp : A.depth + 2 * k + 5 < recursionLimit
  un : A.units + 16 * k + 200 < cLine
theorem Room.mono {j k : Nat} {A : Around} (r : Room k A) (h : j ≤ k) : Room j A := ⟨r.hd, by have := r.dp; omega, by have := r.un; omega⟩
theorem Room.deeper {k : Nat} {A : Around} (r : Room (k + 1) A) (env : Env) : Room k (A.deeper env) :=
  ⟨r.hd, by have := r.dp; show A.depth + 1 + 2 * k + 5 < _; omega, by have := r.un; show A.units + 3 + 16 * k + 200 < _; omega⟩
theorem Room.in1 {k : Nat} {A : Around} (r : Room (k + 1) A) : Room k A.in1 :=
  ⟨r.hd, by have := r.dp; show A.depth + 2 * k + 5 < _; omega, by have := r.un; show A.units + 1 + 16 * k + 200 < _; omega⟩
theorem Room.depth {k : Nat} {A : Around} (r : Room k A) : A.depth < recursionLimit := by have := r.dp; omega
theorem Room.units {k : Nat} {A : Around} (r : Room k A) : A.units + 64 < cLine := by have := r.un; omega
def tNil : TA := fun _ H Q => Q [] H
def tCons (ta : TE) (tr : TA) : TA := fun σ H Q => ta σ H fun x H1 => tr σ H1 fun xs H2 => Q (x :: xs) H2
section
variable {X : Cx} {e : Expr} {es : List Expr} {te : TE} {t : TA} {pos : Pos}
theorem pa_nil : PA X [] tNil := fun _ _ _ _ H Q I h => Calls.spliced_nil ⟨[], H, I, .nil, h⟩
theorem pa_cons (ha : PE X e te) (hr : PA X es t) (hs : starEach (e :: es) X.env = (false, eval e X.env) :: starEach es X.env := by rfl) : PA X (e :: es) (tCons te t) := by
  intro pos pins s σ H Q I h
  rw [hs]
  show wpAny _ _ (spliced ((false, eval e X.env) :: backTo pos (starEach es X.env))) _ _ s
  refine Calls.spliced_cons (thu (ha pins s σ H _ I h) fun u s1 kt1 ⟨x, H1, I1, r1, q1⟩ => ?_)
  exact thu (hr pos pins s1 σ H1 _ I1 q1) fun us s2 kt2 ⟨xs, H2, I2, r2, q2⟩ => ⟨x :: xs, H2, I2, .cons (r1.up kt2) r2, q2⟩

end

/-- a def's promise: the bound arguments in the parameters' order, the heap, the wanted end, the wanted exception -/
abbrev Sp := List V → Hp → VK → XK → Prop
/-- how an exception lies behind a call (file 08 gives it): the callers' frames, abstract heap and state ahead of the call, the wish, the exception, the state -/
abbrev CXT := List Env → Hp → Shared → XK → Value → Shared → Prop

/-- the state at a call -/
structure Env0 (P : Program) (w : World) (K : PySem.W.Frag) (mg : Str → Option Value) (base : Heap) (A : Around) (outer : List Env) (s : Shared) (H : Hp) : Prop where
  frames : A.frames = some outer
  mod : Mod K mg base
  bs : ∀ b o, base.get? b = some o → s.heap.get? b = some o ∧ H b = none
  bsz : base.objs.size ≤ s.heap.objs.size
  funs : s.heap.FunFrames base outer
  frf : ∀ b ∈ frs outer, H b = none
  hok : HOk P w s.toks H s.heap
  bare : AllBare s.gens
/-- a call's end -/
def CE (outer : List Env) (P : Program) (w : World) (H : Hp) (s : Shared) (Q : VK) (u : Value) (s' : Shared) : Prop :=
  ∃ v H', s'.os = s.os ∧ AllBare s'.gens ∧ Un (frs outer) [] H H' s.heap s'.heap ∧ HOk P w s'.toks H' s'.heap ∧ RelV s'.toks v u ∧ Q v H'
def CR (CX : CXT) (outer : List Env) (P : Program) (w : World) (H : Hp) (s : Shared) (Q : VK) (E : XK) (r : Result) (s' : Shared) : Prop :=
  match r with
  | .ok (.ret u) => CE outer P w H s Q u s'
  | .ok _ => False
  | .error e => CX outer H s E e s'
structure FnOk (P : Program) (w : World) (K : PySem.W.Frag) (mg : Str → Option Value) (base : Heap) (CX : CXT) (k : Nat) (f : Addr) (fd : FuncData) (ps : List Str) (sp : Sp) : Prop where
  len : ∀ vs H Q E, sp vs H Q E → vs.length = ps.length
  run : ∀ (A : Around) (outer : List Env) (s : Shared) (H : Hp) (args : Args) (us : List Value) (vs : List V) (Q : VK) (E : XK), Room k A → Env0 P w K mg base A outer s H → (0 < s.toks ∨ ∃ n, ps = [n] ∧ fd.scope.names.lookup n = some .local) → BindsTo s fd args (ps.zip us) → Vals s.toks vs us → sp vs H Q E →
    codeAny (model P w) A (.call (.ref f) args) (CR CX outer P w H s Q E) s
theorem FnOk.mono {P : Program} {w : World} {K : PySem.W.Frag} {mg : Str → Option Value} {base : Heap} {CX : CXT} {j k : Nat} {f : Addr} {fd : FuncData} {ps : List Str} {sp : Sp} (F : FnOk P w K mg base CX j f fd ps sp) (h : j ≤ k) :
    FnOk P w K mg base CX k f fd ps sp := ⟨F.len, fun A outer s H args us vs Q E hr => F.run A outer s H args us vs Q E (hr.mono h)⟩
/-- a weaker promise -/
theorem FnOk.imp {P : Program} {w : World} {K : PySem.W.Frag} {mg : Str → Option Value} {base : Heap} {CX : CXT} {k : Nat} {f : Addr} {fd : FuncData} {ps : List Str} {sp sp' : Sp} (F : FnOk P w K mg base CX k f fd ps sp)
    (h : ∀ vs H Q E, sp' vs H Q E → sp vs H Q E) : FnOk P w K mg base CX k f fd ps sp' :=
  ⟨fun vs H Q E q => F.len vs H Q E (h _ _ _ _ q), fun A outer s H args us vs Q E hr he hp hb hv hs => F.run A outer s H args us vs Q E hr he hp hb hv (h _ _ _ _ hs)⟩

theorem Env0.in1 {P : Program} {w : World} {K : PySem.W.Frag} {mg : Str → Option Value} {base : Heap} {A : Around} {outer : List Env} {s : Shared} {H : Hp} (e : Env0 P w K mg base A outer s H) :
    Env0 P w K mg base A.in1 outer s H := ⟨e.frames, e.mod, e.bs, e.bsz, e.funs, e.frf, e.hok, e.bare⟩

section
variable {X : Cx} {pins : List (Addr × Obj)} {σ : St} {H : Hp} {s s' : Shared}
/-- from a body: what a callee wants -/
theorem Inv.env0 (I : Inv X pins σ H s) : Env0 X.prog X.w X.K X.mg X.base X.A X.stack s H :=
  ⟨I.ok.frames, I.ok.mod, I.bs, Nat.le_trans I.ok.bsz I.sz, I.stack, I.stkFree, I.hok, I.bare⟩
/-- behind a call -/
theorem Inv.after {Q : VK} {u : Value} (I : Inv X pins σ H s) (h : CE X.stack X.prog X.w H s Q u s') (hk : s.toks ≤ s'.toks) : EP X pins σ Q u s' := by
  obtain ⟨v, H', os, bare, un, hok, r, q⟩ := h
  obtain ⟨hh, g, d, t, os'⟩ := s'
  obtain rfl : os' = s.os := os
  exact ⟨v, H', I.call (h' := hh) (g' := g) (d' := d) (t' := t) (ch := []) un hok bare (fun b z => absurd z (by simp)) hk, r, q⟩
end

/-- how the parameters are bound: us the positional arguments, kw the keywords' values by name, ds the defaults that fill up -/
def Binds (K : PySem.W.Frag) (fd : FuncData) (ps : List Str) (ds : List Value) : Prop :=
  ∀ (s : Shared) (us : List Value), K.In s.heap → (us ++ ds).length = ps.length → BindsTo s fd ⟨us, []⟩ (ps.zip (us ++ ds))
/-- every parameter is given -/
theorem Binds.all {K : PySem.W.Frag} {fd : FuncData} {ps : List Str} (h : ∀ us : List Value, us.length = ps.length → bindArgs fd ⟨us, []⟩ = pure (ps.zip us)) : Binds K fd ps [] := fun s us _ hl => by
  rw [List.append_nil] at hl ⊢
  exact .of_eq (h us hl)

section
variable {X : Cx} {CX : CXT} {k : Nat} {f C : Addr} {fd : FuncData} {ps : List Str} {sp : Sp} {dvs : List V} {ds : List Value} {E : XK} {x m : Str} {p pos apos : Pos} {e o : Expr} {es : List Expr} {ta : TE} {t : TA}

end

section
variable {X : Cx} {CX : CXT} {k : Nat} {f C : Addr} {fd : FuncData} {ps ks : List Str} {sp : Sp} {E : XK} {x m : Str} {p pos apos kpos : Pos} {e o : Expr} {es : List Expr} {kws : List Keyword} {te ta : TE} {t tk : TA} {nm : Option Str}
variable {g : List Value → List Value → List Value} {gV : List V → List V → List V}
end

/-- names: the parameters first -/
structure FnScope (N P : List Str) (sc : Scope) : Prop where
  kind : sc.kind = .function
  co : sc.isCoroutine = false
  gen : sc.isGenerator = false
  nd : N.Nodup
  pre : N.take P.length = P
  par : ∀ x ∈ P, sc.names.lookup x = some .local ∨ sc.names.lookup x = some .cell
  nofree : ∀ y ∈ sc.names, y.2 ≠ .free

theorem bindL_out {kindOf : Str → Option NameKind} {x : Str} : ∀ {binds : List (Str × Value)} {m : Str → Option Value}, (∀ v, (x, v) ∉ binds) → bindL kindOf binds m x = m x
  | [], _, _ => rfl
  | (n, v) :: r, m, h => by
    unfold bindL
    rw [bindL_out fun w hw => h w (List.mem_cons_of_mem _ hw)]
    split
    · have : x ≠ n := by rintro rfl; exact h v List.mem_cons_self
      simp [this]
    · rfl
theorem bindC_out {kindOf : Str → Option NameKind} {x : Str} : ∀ {binds : List (Str × Value)} {m : Str → Option Value}, (∀ v, (x, v) ∉ binds) → bindC kindOf binds m x = m x
  | [], _, _ => rfl
  | (n, v) :: r, m, h => by
    unfold bindC
    rw [bindC_out fun w hw => h w (List.mem_cons_of_mem _ hw)]
    split
    · rfl
    · have : x ≠ n := by rintro rfl; exact h v List.mem_cons_self
      simp [this]
theorem bindL_get {kindOf : Str → Option NameKind} {x : Str} {v : Value} : ∀ {P : List Str} {vs : List Value} {i : Nat} {m : Str → Option Value}, P.Nodup → P[i]? = some x → vs[i]? = some v → kindOf x = some .local →
    bindL kindOf (P.zip vs) m x = some v
  | [], _, _, _, _, h, _, _ => by simp at h
  | _ :: _, [], _, _, _, _, h, _ => by simp at h
  | p :: P, w :: vs, 0, m, nd, h1, h2, hk => by
    simp at h1 h2; subst h1; subst h2
    show bindL kindOf ((p, w) :: P.zip vs) m p = _
    unfold bindL
    rw [bindL_out fun v hv => (List.nodup_cons.mp nd).1 (List.of_mem_zip hv).1, if_pos hk]
    simp
  | p :: P, w :: vs, i + 1, m, nd, h1, h2, hk => by
    show bindL kindOf ((p, w) :: P.zip vs) m x = _
    unfold bindL
    exact bindL_get (i := i) (List.nodup_cons.mp nd).2 (by simpa using h1) (by simpa using h2) hk
theorem bindC_get {kindOf : Str → Option NameKind} {x : Str} {v : Value} : ∀ {P : List Str} {vs : List Value} {i : Nat} {m : Str → Option Value}, P.Nodup → P[i]? = some x → vs[i]? = some v → kindOf x ≠ some .local →
    bindC kindOf (P.zip vs) m x = some v
  | [], _, _, _, _, h, _, _ => by simp at h
  | _ :: _, [], _, _, _, _, h, _ => by simp at h
  | p :: P, w :: vs, 0, m, nd, h1, h2, hk => by
    simp at h1 h2; subst h1; subst h2
    show bindC kindOf ((p, w) :: P.zip vs) m p = _
    unfold bindC
    rw [bindC_out fun v hv => (List.nodup_cons.mp nd).1 (List.of_mem_zip hv).1, if_neg hk]
    simp
  | p :: P, w :: vs, i + 1, m, nd, h1, h2, hk => by
    show bindC kindOf ((p, w) :: P.zip vs) m x = _
    unfold bindC
    exact bindC_get (i := i) (List.nodup_cons.mp nd).2 (by simpa using h1) (by simpa using h2) hk

/-- the names' values at the entry -/
def start (N : List Str) (vs : List V) : St := vs.map some ++ List.replicate (N.length - vs.length) none

/-- the context of a def's body, at its entry; an exception leaves the frame, then lies as CX says -/
def cxOf (CX : CXT) (P : Program) (w : World) (K : PySem.W.Frag) (mg : Str → Option Value) (base : Heap) (N : List Str) (qual : Str) (scope : Scope) (f : Addr) (cd : Value) (A : Around) (outer : List Env) (s : Shared) (H : Hp) (E : XK) : Cx where
  prog := P
  w := w
  K := K
  mg := mg
  base := base
  A := A.deeper (envOfC qual scope s.heap.objs.size f cd)
  N := N
  s₀ := s
  H₀ := H
  env := envOfC qual scope s.heap.objs.size f cd
  outer := outer
  stack := envOfC qual scope s.heap.objs.size f cd :: outer
  ex := []
  calm := true
  fn := fun _ => true
  pn := []
  xe := fun e s' => wpAny (model P w) (A.deeper (envOfC qual scope s.heap.objs.size f cd)) (leaving (envOfC qual scope s.heap.objs.size f cd) e) (fun _ s'' => CX outer H s E e s'') (fun e' s'' => CX outer H s E e' s'') s'

theorem cell_has {sc : Scope} {n : Nat} {x : Str} (h : sc.names.lookup x = some .cell) : ∃ c, (cellsFrom n sc.names []).lookup x = some c := by
  have q := PySem.W.cellsFrom_some sc.names n [] (.inl h)
  exact Option.isSome_iff_exists.mp q

/-- the frame of a def with one parameter, a local one: the counter has gone up -/
theorem newEnv_one {M : Model} {A : Around} {E : Value → Shared → Prop} {s : Shared} {scope : Scope} {globals : Addr} {n : Str} {v : Value} {qual : Str} {func : Option Addr} {code : Value} {builtins : Addr} {Q : Env → Shared → Prop}
    (hk : scope.kind = .function) (hl : scope.names.lookup n = some .local)
    (hQ : ∀ env, env = newEnv scope s.heap.objs.size globals (cellsFrom (s.heap.objs.size + 1) scope.names []) qual func code none builtins →
      ∀ s', s.toks < s'.toks → InCallC s env.locals (bindL env.kindOf [(n, v)] fun _ => none) env.cells (bindC env.kindOf [(n, v)] fun _ => none) s' → Q env s') :
    wpAny M A (newFunctionEnv scope globals [] [(n, v)] qual func code none builtins) Q E s := by
  simp only [newFunctionEnv, Option.isSome_none, Bool.false_eq_true, if_false]
  refine wpAny_bind (wpAny_alloc ?_)
  refine wpAny_bind (wpAny_layCells _ (fun name kind cells => by cases hkc : kind == NameKind.cell <;> simp [hkc]) _ _ _ _ ?_)
  have ok := cellsFrom_ok scope.names (s.heap.push { cls := .type "frame", data := .dict #[] }) (s.heap.objs.size + 1) [] ⟨fun _ _ hm => (nomatch hm), List.Pairwise.nil⟩ (by rw [Heap.size_push]; exact Nat.le_refl _)
  rw [Heap.size_push] at ok
  rw [show ({ s with heap := s.heap.push { cls := .type "frame", data := .dict #[] } } : Shared).heap.objs.size = s.heap.objs.size + 1 from Heap.size_push ..]
  have x : InCallC s s.heap.objs.size (fun _ => none) (cellsFrom (s.heap.objs.size + 1) scope.names []) (fun _ => none) { s with heap := pushCells (s.heap.push { cls := .type "frame", data := .dict #[] }) scope.names } :=
    ⟨⟨⟨_, _, rfl⟩, (Heap.Ns.new s.heap (.type "frame")).keeps (pushCells_keeps _ _), fun b o e => pushCells_keeps _ _ b o (Heap.get?_push_of_some _ e), Nat.le_refl _⟩,
      fun n c hc => (ok.empty n c (PySem.mem_of_lookup hc)).1, ok.apart, fun n c hm => (ok.empty n c hm).2⟩
  refine wpAny_bind ?_
  rw [List.forIn_cons]
  refine wpAny_bind (wpAny_bind (wpAny_storeName_local (env := newEnv scope s.heap.objs.size globals (cellsFrom (s.heap.objs.size + 1) scope.names []) qual func code none builtins) hl x.toInCall.ns (fun h' hn' hs' => wpAny_pure ?_) (by show (scope.kind == _ || (scope.kind == _ && _)) = false; rw [hk]; rfl)))
  show wpAny M A (forIn [] _ _) _ _ _
  rw [List.forIn_nil]
  refine wpAny_pure (wpAny_pure (hQ _ rfl _ (Nat.lt_succ_self _) ?_))
  have e1 : bindL (newEnv scope s.heap.objs.size globals (cellsFrom (s.heap.objs.size + 1) scope.names []) qual func code none builtins).kindOf [(n, v)] (fun _ => none) = fun y => if y = n then some v else none := by
    show (if _ = some NameKind.local then _ else _) = _; exact if_pos hl
  have e2 : bindC (newEnv scope s.heap.objs.size globals (cellsFrom (s.heap.objs.size + 1) scope.names []) qual func code none builtins).kindOf [(n, v)] (fun _ => none) = fun _ => none := by
    show (if _ = some NameKind.local then _ else _) = _; exact if_pos hl
  rw [e1, e2]
  refine ⟨⟨?_, hn', fun b o e => ?_, x.toInCall.fresh⟩, fun k c hc => ?_, x.apart, x.above⟩
  · exact ⟨h', _, rfl⟩
  · exact hs'.extBut b o (Nat.ne_of_lt (Nat.lt_of_lt_of_le (Heap.lt_size e) x.toInCall.fresh)) (x.toInCall.keep b o e)
  · exact (x.cell k c hc).sameBut hs' (Nat.ne_of_gt (x.above k c (PySem.mem_of_lookup hc)))
theorem inv_start {CX : CXT} {P : Program} {w : World} {K : PySem.W.Frag} {mg : Str → Option Value} {base : Heap} {N ps : List Str} {qual : Str} {scope : Scope} {f : Addr} {cd : Value} {A : Around} {outer : List Env} {s s1 : Shared} {H : Hp} {E : XK} {us : List Value} {vs : List V}
    (S : FnScope N ps scope) (hd : A.handled = none) (e0 : Env0 P w K mg base A outer s H) (hl : vs.length = ps.length) (r : Vals s.toks vs us) (hle : s.toks ≤ s1.toks) (hp0 : 0 < s1.toks)
    (x : InCallC s s.heap.objs.size (bindL (envOfC qual scope s.heap.objs.size f cd).kindOf (ps.zip us) fun _ => none) (cellsFrom (s.heap.objs.size + 1) scope.names []) (bindC (envOfC qual scope s.heap.objs.size f cd).kindOf (ps.zip us) fun _ => none) s1) :
    Inv (cxOf CX P w K mg base N qual scope f cd A outer s H E) [] (start N vs) H s1 := by
  have hpl : ps.length ≤ N.length := by have := congrArg List.length S.pre; rw [List.length_take] at this; omega
  obtain ⟨h1, tk, rfl, hk⟩ := x.done
  have noA : ∀ b : Addr, b ∉ (cxOf CX P w K mg base N qual scope f cd A outer s H E).ex := fun b z => absurd (show b ∈ ([] : List Addr) from z) (by simp)
  refine ⟨⟨e0.mod, S.kind, rfl, rfl, Nat.le_refl _, fun y z c h1 h2 => ?_, fun y hy => ?_, fun y c _ h => ?_, fun _ => hd, Around.frames_deeper e0.frames, .inr ⟨rfl, rfl⟩, fun b z => absurd z (noA b), e0.bs, e0.bsz, fun b _ _ => noA b, fun b z => absurd z (noA b), e0.funs, e0.frf⟩,
    rfl, e0.bare, Un.kept hk, ⟨_, x.toInCall.ns, fun i y v h1 h2 h3 => ?_⟩, fun y c h => ⟨_, x.cell y c h⟩, e0.hok.fresh (Nat.le_refl _), fun y c h => ?_, fun p hp => absurd (show p ∈ ([] : List (Addr × Obj)) from hp) (by simp), (e0.hok.kept hk).up hle, ?_, hp0, hle⟩
  · exact name_of_addr x.apart (PySem.mem_of_lookup h1) (PySem.mem_of_lookup h2)
  · have hy : scope.names.lookup y = some .cell ∨ scope.names.lookup y = some .free := hy
    rcases hy with hy | hy
    · exact cell_has hy
    · exact absurd rfl (S.nofree _ (PySem.mem_of_lookup hy))
  · exact Nat.le_of_lt (x.above y c (PySem.mem_of_lookup h))
  · have hi : i < vs.length := by
      unfold start at h2
      by_cases hi : i < vs.length
      · exact hi
      · rw [List.getElem?_append_right (by simpa using hi)] at h2
        rw [List.getElem?_replicate] at h2
        split at h2 <;> cases h2
    have ha : vs[i]? = some v := by
      unfold start at h2
      rw [List.getElem?_append_left (by simpa using hi), List.getElem?_map] at h2
      cases e : vs[i]? with
      | none => rw [e] at h2; cases h2
      | some a => rw [e] at h2; cases h2; rfl
    obtain ⟨u, hu, rv⟩ := r.get ha
    have hp : ps[i]? = some y := by
      rw [← S.pre, List.getElem?_take_of_lt (by omega)]; exact h1
    have ndP : ps.Nodup := by rw [← S.pre]; exact S.nd.sublist (List.take_sublist _ _)
    refine ⟨u, rv.up hle, ?_⟩
    rcases S.par y (List.mem_of_getElem? hp) with k | k
    · exact .inl ⟨k, bindL_get ndP hp hu k⟩
    · obtain ⟨c, e⟩ := cell_has (n := s.heap.objs.size + 1) k
      refine .inr ⟨.inl k, c, e, ?_⟩
      have q := x.cell y c e
      rw [bindC_get ndP hp hu (by show scope.names.lookup y ≠ _; rw [k]; decide)] at q
      exact q
  · exact e0.hok.fresh (Nat.le_of_lt (x.above y c (PySem.mem_of_lookup h)))
  · unfold start
    show _ = N.length
    rw [List.length_append, List.length_map, List.length_replicate]
    omega

/-- THE RULE: a def (or a method) of the text, by its body. The body's reading t is chosen for each entry; it is run at the parameters' values -/
theorem fn_of {CX : CXT} {P : Program} {w : World} {K : PySem.W.Frag} {mg : Str → Option Value} {base : Heap} {k : Nat} {f : Addr} {name qual : Str} {params : Arguments} {body : List Stmt} {scope : Scope} {dV kV doc pm cdv ct oc : Value} {an od : Option Addr}
    {osl : Array (Option Value)} {N ps : List Str} {sp : Sp} (lk : K.lookup f = some ⟨oc, od, .func (PySem.W.fnOf name qual params body scope dV kV doc pm an cdv ct), osl⟩) (hcd : PySem.W.codeIn K cdv qual = true) (S : FnScope N ps scope)
    (len : ∀ vs H Q E, sp vs H Q E → vs.length = ps.length)
    (hbody : ∀ (A : Around) (outer : List Env) (s : Shared) (H : Hp) (vs : List V) (Q : VK) (E : XK), Room k (A.deeper (envOfC qual scope s.heap.objs.size f cdv)) → sp vs H Q E →
      ∃ t, PSs (cxOf CX P w K mg base N qual scope f cdv A outer s H E) body t ∧ t { nx := fun _ H' => Q .non H', rt := Q } (start N vs) H) :
    FnOk P w K mg base CX (k + 1) f (PySem.W.fnOf name qual params body scope dV kV doc pm an cdv ct) ps sp := by
  refine ⟨len, fun A outer s H args us vs Q E hr e0 hp hb r hsp => ?_⟩
  have hl := len _ _ _ _ hsp
  have KX : K.In s.heap := e0.mod.kin.keeps fun b o e => (e0.bs b o e).1
  have lim : s.heap.NoLimit := e0.mod.nolimit.keeps fun b o e => (e0.bs b o e).1
  have hkind : ∀ y ∈ ps.zip us, scope.names.lookup y.1 = some .local ∨ (scope.names.lookup y.1 = some .cell ∧ ((cellsFrom (s.heap.objs.size + 1) scope.names []).lookup y.1).isSome = true) := fun ⟨n, v⟩ hy => by
    rcases S.par n (List.of_mem_zip hy).1 with q | q
    · exact .inl q
    · exact .inr ⟨q, PySem.W.cellsFrom_some _ _ _ (.inl q)⟩
  refine codeAny_call_function hr.depth (KX _ _ lk) rfl S.co S.gen rfl (PySem.W.codeRec_of KX hcd) (hb _ _ _ _ ?_)
  suffices hh : ∀ env, env = newEnv scope s.heap.objs.size mainGlobals (cellsFrom (s.heap.objs.size + 1) scope.names []) (qual ++ ".<locals>.") (some f) cdv none builtinsNs → ∀ s1, s.toks ≤ s1.toks → 0 < s1.toks → InCallC s env.locals (bindL env.kindOf (ps.zip us) fun _ => none) env.cells (bindC env.kindOf (ps.zip us) fun _ => none) s1 → s1.heap.NoLimit ∧ codeAny (model P w) A (Code.func body env) (CR CX outer P w H s Q E) s1 by
    rcases hp with hp | ⟨n, e1, hn⟩
    · exact up (wpAny_newFunctionEnv_cells S.kind hkind fun env he s1 x hle => hh env he s1 hle (Nat.lt_of_lt_of_le hp hle) x)
    · subst e1
      have hus : us.length = 1 := r.length.symm.trans hl
      obtain ⟨u, rfl⟩ : ∃ u, us = [u] := List.length_eq_one_iff.mp hus
      exact newEnv_one S.kind hn fun env he s1 hlt x => hh env he s1 (Nat.le_of_lt hlt) (Nat.lt_of_le_of_lt (Nat.zero_le _) hlt) x
  intro env he s1 hle hp0 x
  subst he
  refine ⟨lim.keeps x.toInCall.keep, codeAny_func ?_⟩
  obtain ⟨t, ht, hq⟩ := hbody A outer s H vs Q E (hr.deeper _) hsp
  have I : Inv (cxOf CX P w K mg base N qual scope f cdv A outer s H E) [] (start N vs) H s1 := inv_start S hr.hd e0 hl r hle hp0 x
  refine wpAny_mono (ht [] s1 (start N vs) H _ I hq) (fun fl s' hs => ?_) fun e s' hs => hs
  have fin : ∀ {σ' : St} {H' : Hp} {v : V} {u : Value}, Inv (cxOf CX P w K mg base N qual scope f cdv A outer s H E) [] σ' H' s' → RelV _ v u → Q v H' → CE outer P w H s Q u s' :=
    fun {σ' H' v u} J rv q => ⟨v, H', J.os, J.bare, J.base, J.hok, rv, q⟩
  cases fl with
  | ret u =>
    obtain ⟨v, σ', H', J, rv, q⟩ := hs
    exact fin J rv q
  | next =>
    obtain ⟨σ', H', J, q⟩ := hs
    exact fin (v := V.non) (u := Value.none) J rfl q
  | brk =>
    obtain ⟨_, _, _, q⟩ := hs
    exact False.elim q
  | cont =>
    obtain ⟨_, _, _, q⟩ := hs
    exact False.elim q
end L2

namespace L2
variable {nk : Nat}
open PySem PySem.Spec PyProof.Rows
section
variable {X : Cx} {x : Str} {p pos : Pos} {e : Expr} {es : List Expr} {t : TA} {id T : String} {r : List V → Hp → VK → Prop}

def tCB (r : List V → Hp → VK → Prop) (t : TA) : TE := fun σ H Q => t σ H fun vs H1 => r vs H1 Q
/-- f(e, ..), f a built-in function -/
theorem pe_callB (hc : CallR X (.builtin id) r) (hg : Gl X x) (hm : X.mg x = none) (hv : bootBuiltins x = some (.builtin id)) (ha : PA X (e :: es) t) (hn : x ≠ "__name__" := by decide) (hdb : (x == ("__debug__" : Str)) = false := by decide)
    (he : starEach (e :: es) X.env = (false, eval e X.env) :: starEach es X.env := by rfl) (hpl : (backTo pos (starEach es X.env)).any (·.1) = false := by rfl) : PE X (.Call (.Name x p) (e :: es) [] pos) (tCB r t) := by
  intro pins s σ H Q I h
  refine wpAny_Call_Name_kw (ld_blt I hg hm hv ?_ hn hdb)
  exact PyProof.Rows.callWith_builtin1 (thu (ha pos pins s σ H _ I h) fun us s1 kt1 ⟨vs, H1, I1, r1, q1⟩ => hc pins s1 σ H1 vs us Q I1 r1 q1) he hpl
/-- T(e, ..), T a built-in type -/
theorem pe_callTy (hc : CallR X (.type T) r) (hg : Gl X x) (hm : X.mg x = none) (hv : bootBuiltins x = some (.type T)) (ha : PA X (e :: es) t) (hn : x ≠ "__name__" := by decide) (hdb : (x == ("__debug__" : Str)) = false := by decide)
    (he : starEach (e :: es) X.env = (false, eval e X.env) :: starEach es X.env := by rfl) (hpl : (backTo pos (starEach es X.env)).any (·.1) = false := by rfl) : PE X (.Call (.Name x p) (e :: es) [] pos) (tCB r t) := by
  intro pins s σ H Q I h
  refine wpAny_Call_Name_kw (ld_blt I hg hm hv ?_ hn hdb)
  exact PyProof.Rows.callWith_type1 (thu (ha pos pins s σ H _ I h) fun us s1 kt1 ⟨vs, H1, I1, r1, q1⟩ => hc pins s1 σ H1 vs us Q I1 r1 q1) he hpl
end
end L2

namespace HT
open PySem PyProof.Rows

/-- t < u of tuples of ints -/
def lexLt : List Int → List Int → Bool
  | [], [] => false
  | [], _ :: _ => true
  | _ :: _, [] => false
  | x :: xs, y :: ys => if x = y then lexLt xs ys else decide (x < y)
theorem lexLt_cons (x y : Int) (xs ys : List Int) : lexLt (x :: xs) (y :: ys) = if x = y then lexLt xs ys else decide (x < y) := rfl
section
open PySem.SeqAt
open PySem.AutoSeq1 (wpAny_loadPart')
open PySem.MeetsSeq PySem.MeetsSeq2 PySem.MeetsSeq3

end

section
variable {prog : Program} {w : World} {A : Around} {E : Value → Shared → Prop} {s : Shared}

/-- t + u, t not empty -/
theorem cat_tup {t b : Addr} {vs ws : List Value} {Q : Value → Shared → Prop} (ht : IsTup s.heap t vs.toArray) (hb : IsTup s.heap b ws.toArray) (hv : vs ≠ [])
    (h1 : ws = [] → Q (.ref t) s) (h2 : ws ≠ [] → Q (.ref s.heap.objs.size) { s with heap := s.heap.push { cls := .type "tuple", data := .seq (vs ++ ws).toArray } })
    (hsz : vs.length + ws.length ≤ sizeLine) : wpAny (model prog w) A (binaryOp .Add (.ref t) (.ref b)) Q E s := by
  obtain ⟨⟨cls, dd, data, sl⟩, ho, hc, n, hd⟩ := id ht
  obtain ⟨⟨cls2, dd2, data2, sl2⟩, ho2, hc2, n2, hd2⟩ := id hb
  simp only at hc hd hc2 hd2
  subst hc hd hc2 hd2
  have e : vs.toArray ++ ws.toArray = (vs ++ ws).toArray := by simp
  by_cases hw : ws = []
  · exact concat_meets ⟨_, ho, rfl⟩ ⟨_, ho2, rfl⟩ noFill_tuple_add seq_tuple_add PySem.F.slot_tuple_add PySem.F.entry_tuple_add (PySem.F.args_tuple_add_2 _ _)
      (tuple_addW1 t b vs.toArray ws.toArray n n2 dd dd2 sl sl2 (by simpa using hv) (by simp [hw])) ⟨ho, ho2, h1 hw⟩
  · refine concat_meets ⟨_, ho, rfl⟩ ⟨_, ho2, rfl⟩ noFill_tuple_add seq_tuple_add PySem.F.slot_tuple_add PySem.F.entry_tuple_add (PySem.F.args_tuple_add_2 _ _)
      (tuple_addW2 t b vs.toArray ws.toArray n n2 dd dd2 sl sl2 (by simpa using hv) (by simpa using hw) (by rw [List.size_toArray, List.size_toArray]; exact hsz)) ⟨ho, ho2, ?_⟩
    rw [e]
    exact h2 hw

/-- a slice's bound as a place among n (d where it is left out) -/
def sIx (n d : Nat) : Option Int → Nat
  | none => d
  | some v => if v < 0 then (v + (n : Int)).toNat else min v.toNat n
theorem sIx_none (n d : Nat) : sIx n d none = d := rfl
theorem sIx_nat (n d k : Nat) : sIx n d (some (k : Int)) = min k n := by
  show (if (k : Int) < 0 then ((k : Int) + (n : Int)).toNat else min (k : Int).toNat n) = min k n
  rw [if_neg (by omega), Int.toNat_natCast]
theorem sIx_le (n d : Nat) (hd : d ≤ n) (o : Option Int) : sIx n d o ≤ n := by
  cases o with
  | none => exact hd
  | some v =>
    show (if v < 0 then (v + (n : Int)).toNat else min v.toNat n) ≤ n
    by_cases hv : v < 0
    · rw [if_pos hv]; omega
    · rw [if_neg hv]; exact Nat.min_le_right _ _
theorem clip_eq (v : Int) (n d : Nat) : (if v < 0 then max (v + (n : Int)) 0 else min v (n : Int)) = ((sIx n d (some v) : Nat) : Int) := by
  show (if v < 0 then max (v + (n : Int)) 0 else min v (n : Int)) = (((if v < 0 then (v + (n : Int)).toNat else min v.toNat n) : Nat) : Int)
  by_cases hv : v < 0
  · simp only [if_pos hv]; omega
  · simp only [if_neg hv]; omega
theorem adjust_gen (lo hi : Option Int) (n : Nat) : Builtin.Slice.sliceAdjust lo hi 1 (n : Int) = (((sIx n 0 lo : Nat) : Int), ((sIx n n hi : Nat) : Int)) := by
  have h1 : ¬ ((1 : Int) < 0) := by omega
  unfold Builtin.Slice.sliceAdjust
  simp only [h1, if_false]
  refine Prod.ext ?_ ?_
  · cases lo with
    | none => rfl
    | some v => exact clip_eq v n 0
  · cases hi with
    | none => rfl
    | some v => exact clip_eq v n n
theorem places_gen (i j : Nat) : Builtin.Slice.slicePlaces (i : Int) (j : Int) 1 = j - i := by
  unfold Builtin.Slice.slicePlaces
  have h1 : (1 : Int) > 0 := by omega
  simp only [h1, if_true, Int.ediv_one]
  split <;> omega
theorem slicePart_ {v : Value} {o : Option Int} {Q : Option Int → Shared → Prop} (p : IsPart v o) (h : Q o s) : wpAny (model prog w) A (Builtin.Slice.slicePartIndex v) Q E s := by
  cases p with
  | none => exact slicePart_none h
  | int i t => exact slicePart_int h
theorem sliceApplied_gen {sl : Addr} {vl vu : Value} {lo hi : Option Int} {n : Nat} {Q : Int × Int × Nat → Shared → Prop} (hs : s.heap.IsSliceOf sl vl vu .none) (pl : IsPart vl lo) (pu : IsPart vu hi)
    (h : Q (((sIx n 0 lo : Nat) : Int), 1, sIx n n hi - sIx n 0 lo) s) : wpAny (model prog w) A (Builtin.Slice.sliceApplied (.ref sl) (pure (n : Int))) Q E s := by
  obtain ⟨os, hos, hcs, hds⟩ := id hs
  unfold Builtin.Slice.sliceApplied Builtin.Slice.sliceFields
  refine wpAny_bind (wpAny_bind (wpAny_field hos hds (x := vl) rfl (wpAny_bind (wpAny_field hos hds (x := vu) rfl (wpAny_bind (wpAny_field hos hds (x := .none) rfl (wpAny_pure ?_)))))))
  refine wpAny_bind (slicePart_none ?_)
  show wpAny _ _ (if ((1 : Int) == 0) = true then _ else _) _ _ s
  rw [if_neg (by decide)]
  refine wpAny_bind (slicePart_ pl (wpAny_bind (slicePart_ pu (wpAny_bind (wpAny_pure ?_)))))
  show wpAny _ _ (match Builtin.Slice.sliceAdjust lo hi 1 (n : Int) with | (lo, hi) => pure (lo, (1 : Int), Builtin.Slice.slicePlaces lo hi 1)) _ _ s
  rw [adjust_gen lo hi n]
  show wpAny _ _ (pure (((sIx n 0 lo : Nat) : Int), (1 : Int), Builtin.Slice.slicePlaces ((sIx n 0 lo : Nat) : Int) ((sIx n n hi : Nat) : Int) 1)) _ _ s
  rw [places_gen]
  exact wpAny_pure h
theorem pick_gen (xs : Array Value) (i k : Nat) : ((List.range k).filterMap fun (m : Nat) => xs[((i : Int) + (m : Int) * 1).toNat]?).toArray = ((xs.toList.drop i).take k).toArray := by
  have e : (fun (m : Nat) => xs[((i : Int) + (m : Int) * 1).toNat]?) = fun m => xs[i + m]? := by
    funext m
    have : ((i : Int) + (m : Int) * 1).toNat = i + m := by omega
    rw [this]
  rw [e]
  have := pick_run xs i k
  rw [List.filterMap_map] at this
  have e2 : ((fun x => xs[x]?) ∘ fun x => i + x) = fun m => xs[i + m]? := rfl
  rw [e2] at this
  rw [this]

theorem getItem_tuple_cut {t sl : Addr} {items : Array Value} {vl vu : Value} {lo hi : Option Int} {Q : Value → Shared → Prop} (ht : IsTup s.heap t items) (hs : s.heap.IsSliceOf sl vl vu .none) (pl : IsPart vl lo) (pu : IsPart vu hi)
    (hw : ¬ (sIx items.size 0 lo = 0 ∧ sIx items.size items.size hi = items.size))
    (h : Q (.ref s.heap.objs.size) { s with heap := s.heap.push { cls := .type "tuple", data := .seq ((items.toList.drop (sIx items.size 0 lo)).take (sIx items.size items.size hi - sIx items.size 0 lo)).toArray } })
    (hsz : items.size ≤ sizeLine) : wpAny (model prog w) A (getItem (.ref t) (.ref sl)) Q E s := by
  have htake : sizeOk (.seq ((items.toList.drop (sIx items.size 0 lo)).take (sIx items.size items.size hi - sIx items.size 0 lo)).toArray) := by
    show ((items.toList.drop (sIx items.size 0 lo)).take (sIx items.size items.size hi - sIx items.size 0 lo)).toArray.size ≤ sizeLine
    rw [List.size_toArray, List.length_take, List.length_drop, Array.length_toList]
    omega
  have hj : sIx items.size items.size hi ≤ items.size := sIx_le _ _ (Nat.le_refl _) hi
  obtain ⟨os, hos, hcs, hds⟩ := id hs
  have hTs : s.TypeIs (.ref sl) "slice" := ⟨os, hos, hcs⟩
  unfold getItem
  try with_reducible refine wpAny_holding ?_
  first | refine wpAny_bind (wpAny_pure ?_) | skip
  refine wpAny_bind (wpAny_sequenceKey ht.typeIs (by decide) ?_)
  refine wpAny_bind (wpAny_callSpecial?_slot (name := Str.ofString "__getitem__") ht.typeIs PyProof.Rows.slot_tuple_getitem
    (wpAny_call_entry PyProof.Rows.slot_tuple_getitem ht.typeIs entry_tuple_getitem ?_ (args_tuple_getitem _ _)))
  show wpAny _ _ (Builtin.Tuple.tupleItemsOf (.ref t) >>= _) _ _ s
  refine wpAny_bind (tupleItemsOf_ ht ?_)
  refine wpAny_bind (wpAny_typeOf hTs ?_)
  rw [if_pos (by decide)]
  refine wpAny_bind (sliceApplied_gen hs pl pu ?_)
  have hno : ¬ ((((sIx items.size 0 lo : Nat) : Int) == 0 && (1 : Int) == 1 && (sIx items.size items.size hi - sIx items.size 0 lo) == items.size) = true) := by
    intro q
    rw [Bool.and_eq_true, Bool.and_eq_true] at q
    have q1 : ((sIx items.size 0 lo : Nat) : Int) = 0 := eq_of_beq q.1.1
    have q2 : sIx items.size items.size hi - sIx items.size 0 lo = items.size := eq_of_beq q.2
    exact hw ⟨by omega, by omega⟩
  show wpAny _ _ (if (((sIx items.size 0 lo : Nat) : Int) == 0 && (1 : Int) == 1 && (sIx items.size items.size hi - sIx items.size 0 lo) == items.size) = true then _ else _) _ _ s
  rw [if_neg hno, pick_gen]
  first
    | exact wpAny_bind (m := Builtin.Tuple.tupleExact _) (wpAny_newObj_type (wpAny_pure ⟨_, rfl, wpAny_pure h⟩) htake)
    | exact wpAny_bind (m := Builtin.Tuple.tupleExact _) (wpAny_newObj_type (wpAny_bind (wpAny_pure (wpAny_pure ⟨_, rfl, wpAny_pure h⟩))) htake)
    | exact wpAny_bind (wpAny_bind (m := Builtin.Tuple.tupleExact _) (wpAny_newObj_type (wpAny_pure (wpAny_pure ⟨_, rfl, wpAny_pure h⟩)) htake))
    | exact wpAny_bind (wpAny_bind (m := Builtin.Tuple.tupleExact _) (wpAny_newObj_type (wpAny_pure ⟨_, rfl, wpAny_pure h⟩) htake))
end
end HT

namespace L2
variable {nk : Nat}
open PySem PySem.Spec PyProof.Rows

abbrev TO := St → Hp → (Option Int → Hp → Prop) → Prop
/-- a slice's part (left out, or an int) -/
def PO (X : Cx) (e : Option Expr) (t : TO) : Prop :=
  ∀ (pins : List (Addr × Obj)) (s : Shared) (σ : St) (H : Hp) (Q : Option Int → Hp → Prop), Inv X pins σ H s → t σ H Q →
    wpAny (model X.prog X.w) X.A (evalPart e X.env) (fun u s' => ∃ o H', Inv X pins σ H' s' ∧ IsPart u o ∧ Q o H') X.xe s
def tNoPart : TO := fun _ H Q => Q none H
def tPart (t : TE) : TO := fun σ H Q => t σ H fun x H1 => ∃ i, x = .int i ∧ Q (some i) H1

theorem intsAre_of {ns : List Int} : ∀ {us : List Value}, Vals nk (ns.map V.int) us → IntsAre us ns := by
  induction ns with
  | nil => intro us r; rw [List.map_nil] at r; cases r; exact .nil
  | cons n ns ih =>
    intro us r
    rw [List.map_cons] at r
    cases r with
    | cons r1 r2 =>
      obtain ⟨t, e⟩ := r1
      subst e
      exact .cons n t (ih r2)

section
variable {X : Cx} {e : Expr} {te : TE} {lo hi : Option Expr} {tl th : TO} {pos p2 : Pos}

theorem po_none : PO X none tNoPart := by
  intro pins s σ H Q I h
  rw [evalPart_none]
  exact wpAny_pure ⟨none, H, I, .none, h⟩
theorem po_some (h : PE X e te) : PO X (some e) (tPart te) := by
  intro pins s σ H Q I hw
  rw [evalPart_some]
  refine thu (h pins s σ H _ I hw) fun u s1 kt1 ⟨x, H1, I1, r1, q1⟩ => ?_
  obtain ⟨i, rfl, q⟩ := q1
  obtain ⟨t, rfl⟩ := r1
  exact ⟨some i, H1, I1, .int i t, q⟩

/-- what a slice of a value is, by values: the slice object stands at sl -/
def SlR (X : Cx) (r : V → Option Int → Option Int → Hp → VK → Prop) : Prop :=
  ∀ (pins : List (Addr × Obj)) (s : Shared) (σ : St) (H : Hp) (x : V) (v vl vu : Value) (lo hi : Option Int) (sl : Addr) (Q : VK), Inv X pins σ H s → RelV s.toks x v → s.heap.IsSliceOf sl vl vu .none → IsPart vl lo → IsPart vu hi → r x lo hi H Q →
    ∃ T id, typeLookup (.type T) "__getitem__" = pure (some (.builtin id)) ∧ s.TypeIs v T ∧ wpAny (model X.prog X.w) X.A (getItem v (.ref sl)) (EP X pins σ Q) X.xe s
theorem SlR.or {r r' : V → Option Int → Option Int → Hp → VK → Prop} (h : SlR X r) (h' : SlR X r') : SlR X (fun x lo hi H Q => r x lo hi H Q ∨ r' x lo hi H Q) := by
  intro pins s σ H x v vl vu lo hi sl Q I rx hs pl pu q
  rcases q with q | q
  · exact h pins s σ H x v vl vu lo hi sl Q I rx hs pl pu q
  · exact h' pins s σ H x v vl vu lo hi sl Q I rx hs pl pu q
def tSl (r : V → Option Int → Option Int → Hp → VK → Prop) (te : TE) (tl th : TO) : TE := fun σ H Q => te σ H fun x H1 => tl σ H1 fun l H2 => th σ H2 fun u H3 => r x l u H3 Q
/-- a[lo:hi], any a -/
theorem pe_slice {r : V → Option Int → Option Int → Hp → VK → Prop} (hr : SlR X r) (he : PE X e te) (hl : PO X lo tl) (hu : PO X hi th) : PE X (.Subscript e (.Slice lo hi none p2) pos) (tSl r te tl th) := by
  intro pins s σ H Q I h
  refine Subscript_ (thu (he pins s σ H _ I h) fun v s1 kt1 ⟨x, H1, I1, r1, q1⟩ => ?_)
  refine wpAny_Slice (thu (hl pins s1 σ H1 _ I1 q1) fun vl s2 kt2 ⟨l, H2, I2, pl, q2⟩ => thu (hu pins s2 σ H2 _ I2 q2) fun vu s3 kt3 ⟨u, H3, I3, pu, q3⟩ => ?_)
  rw [evalPart_none]
  refine wpAny_pure ?_
  have I4 : Inv X pins σ H3 { s3 with heap := s3.heap.push { cls := .type "slice", data := .fields #[vl, vu, .none] } } := I3.kept (t' := s3.toks) fun b ob q => Heap.get?_push_of_some _ q
  obtain ⟨T, id, hT, ht, hg⟩ := hr pins { s3 with heap := s3.heap.push { cls := .type "slice", data := .fields #[vl, vu, .none] } } σ H3 x v vl vu l u s3.heap.objs.size Q I4 (r1.up (Nat.le_trans kt2 kt3)) (Heap.IsSliceOf.new ..) pl pu q3
  show wpAny (model X.prog X.w) X.A (subscriptTail e (.Slice lo hi none p2) v (.ref s3.heap.objs.size)) (EP X pins σ Q) X.xe { s3 with heap := s3.heap.push { cls := .type "slice", data := .fields #[vl, vu, .none] } }
  exact tail_any (ops := [.ref s3.heap.objs.size, v]) ht hT hg (by with_unfolding_all rfl)

/-- the items of xs[lo:hi] -/
def cutV (xs : List V) (lo hi : Option Int) : List V := (xs.drop (HT.sIx xs.length 0 lo)).take (HT.sIx xs.length xs.length hi - HT.sIx xs.length 0 lo)
theorem cutV_length (xs : List V) (lo hi : Option Int) : (cutV xs lo hi).length ≤ xs.length := by
  unfold cutV
  rw [List.length_take, List.length_drop]
  omega
/-- t[lo:hi], not the whole of it (the whole would be t itself) -/
def rSlT (K : PySem.W.Frag) : V → Option Int → Option Int → Hp → VK → Prop := fun x lo hi H Q => ∃ a xs, x = .ref a ∧ SqT K H a xs ∧
  ¬ (HT.sIx xs.length 0 lo = 0 ∧ HT.sIx xs.length xs.length hi = xs.length) ∧ ∀ p, H p = none → Q (.ref p) (upd H p (.tup (cutV xs lo hi)))
theorem sl_tup : SlR X (rSlT X.K) := by
  intro pins s σ H x v vl vu lo hi sl Q I rx hs pl pu h
  obtain ⟨a, xs, rfl, hx, hw, q⟩ := h
  cases rx
  obtain ⟨its, r, ht, hz⟩ := I.tuple hx
  have hlen : its.toArray.size = xs.length := by rw [List.size_toArray]; exact r.length.symm
  refine ⟨"tuple", _, PyProof.Rows.slot_tuple_getitem.lookup, ht.typeIs, ?_⟩
  refine HT.getItem_tuple_cut ht hs pl pu (by rw [hlen]; exact hw) ?_ (by rw [hlen]; exact hz)
  rw [hlen]
  refine ⟨.ref s.heap.objs.size, _, I.laid (t' := s.toks) (o := .tup (cutV xs lo hi)) (fun b ob q => Heap.get?_push_of_some _ q) (Nat.le_refl _) ?_, rfl, q _ (I.hok.fresh (Nat.le_refl _))⟩
  exact ⟨Nat.le_trans (cutV_length xs lo hi) hz, _, (r.drop (HT.sIx xs.length 0 lo)).take (HT.sIx xs.length xs.length hi - HT.sIx xs.length 0 lo), IsTup.new _ _⟩

/-- t + u, t not empty: u empty gives t itself -/
def rCatT (K : PySem.W.Frag) : R2 := fun x y H Q => ∃ a b xs ys, x = .ref a ∧ y = .ref b ∧ SqT K H a xs ∧ SqT K H b ys ∧ xs ≠ [] ∧ xs.length + ys.length ≤ sizeLine ∧
  (ys = [] → Q (.ref a) H) ∧ (ys ≠ [] → ∀ p, H p = none → Q (.ref p) (upd H p (.tup (xs ++ ys))))
theorem Vals.nil_iff {xs : List V} {us : List Value} (r : Vals nk xs us) : us = [] ↔ xs = [] := by
  cases r with
  | nil => simp
  | cons _ _ => simp
theorem op_catT : OpR X (binaryOp .Add) (rCatT X.K) := by
  intro pins s σ H x y v u Q I rx ry h
  obtain ⟨a, b, xs, ys, rfl, rfl, ha, hb, hx, hz, q1, q2⟩ := h
  cases rx
  cases ry
  obtain ⟨its, r1, p1, _⟩ := I.tuple ha
  obtain ⟨its2, r2, p2, _⟩ := I.tuple hb
  refine HT.cat_tup p1 p2 (fun z => hx (r1.nil_iff.mp z)) (fun z => ⟨.ref a, H, I, rfl, q1 (r2.nil_iff.mp z)⟩) (fun z => ?_) (by rw [← r1.length, ← r2.length]; exact hz)
  refine ⟨.ref s.heap.objs.size, _, I.laid (t' := s.toks) (o := .tup (xs ++ ys)) (fun b ob q => Heap.get?_push_of_some _ q) (Nat.le_refl _) ?_, rfl, q2 (fun w => z (r2.nil_iff.mpr w)) _ (I.hok.fresh (Nat.le_refl _))⟩
  exact ⟨by rw [List.length_append]; exact hz, _, r1.append r2, IsTup.new _ _⟩
/-- tuple(t) -/
theorem call_tupleT : CallR X (.type "tuple") (fun xs H Q => ∃ a ys, xs = [.ref a] ∧ SqT X.K H a ys ∧ Q (.ref a) H) := by
  intro pins s σ H xs us Q I r h
  obtain ⟨a, ys, rfl, ha, q⟩ := h
  obtain ⟨u, rfl, ru⟩ := vals1 r
  cases ru
  obtain ⟨its, _, p1, _⟩ := I.tuple ha
  exact call_tuple_same (items := its.toArray) p1 ⟨.ref a, H, I, rfl, q⟩
end
end L2

namespace L2
variable {nk : Nat}
open PySem PySem.Spec PyProof.Rows

/-- the place that an index of any sign means -/
def ixN (n : Nat) (i : Int) : Option Nat := if 0 ≤ i then (if i < n then some i.toNat else none) else if -(n : Int) ≤ i then some (i + n).toNat else none
def atI {α : Type} (xs : List α) (i : Int) : Option α := (ixN xs.length i).bind fun j => xs[j]?
theorem ixN_seq {n : Nat} {i : Int} {j : Nat} (h : ixN n i = some j) : seqIndex? i n = some j ∧ j < n ∧ -(n : Int) ≤ i ∧ i < n := by
  unfold ixN at h
  by_cases h0 : 0 ≤ i
  · rw [if_pos h0] at h
    by_cases h1 : i < n
    · rw [if_pos h1] at h
      have e : i.toNat = j := Option.some.inj h
      exact ⟨by rw [seqIndex_of h0 h1, e], by omega, by omega, h1⟩
    · rw [if_neg h1] at h; cases h
  · rw [if_neg h0] at h
    by_cases h1 : -(n : Int) ≤ i
    · rw [if_pos h1] at h
      have e : (i + n).toNat = j := Option.some.inj h
      exact ⟨by rw [seqIndex_neg (by omega) h1, e], by omega, h1, by omega⟩
    · rw [if_neg h1] at h; cases h
theorem atI_get {α : Type} {xs : List α} {i : Int} {v : α} (h : atI xs i = some v) : ∃ j, seqIndex? i xs.length = some j ∧ xs[j]? = some v ∧ j < xs.length ∧ -(xs.length : Int) ≤ i ∧ i < xs.length := by
  unfold atI at h
  cases e : ixN xs.length i with
  | none => rw [e] at h; cases h
  | some j =>
    rw [e] at h
    obtain ⟨h1, h2, h3, h4⟩ := ixN_seq e
    exact ⟨j, h1, h, h2, h3, h4⟩
/-- what stands as an index of a plain subscript -/
def PlainIx (b : Expr) : Prop := ∀ o i, subscripted b false o i = operate [o, i] (getItem o i)
/-- a subscript by values -/
def IxR (X : Cx) (r : R2) : Prop :=
  ∀ (value slice : Expr) (pins : List (Addr × Obj)) (s : Shared) (σ : St) (H : Hp) (x y : V) (v u : Value) (Q : VK), Inv X pins σ H s → RelV s.toks x v → RelV s.toks y u → r x y H Q →
    subscripted slice false v u = operate [v, u] (getItem v u) → wpAny (model X.prog X.w) X.A (subscriptTail value slice v u) (EP X pins σ Q) X.xe s
/-- a call of a builtin's method by values: the receiver, the arguments -/
def MtR (X : Cx) (id : String) (r : V → List V → Hp → VK → Prop) : Prop :=
  ∀ (pins : List (Addr × Obj)) (s : Shared) (σ : St) (H : Hp) (x : V) (xs : List V) (v : Value) (us : List Value) (Q : VK), Inv X pins σ H s → RelV s.toks x v → Vals s.toks xs us → r x xs H Q →
    wpAny (model X.prog X.w) X.A (call (.builtin id) (v :: us)) (EP X pins σ Q) X.xe s
section
variable {X : Cx} {a b : Expr} {ta tb : TE} {pos : Pos}
theorem IxR.or {r r' : R2} (h : IxR X r) (h' : IxR X r') : IxR X (fun x y H Q => r x y H Q ∨ r' x y H Q) := by
  intro value slice pins s σ H x y v u Q I rx ry q hs
  rcases q with q | q
  · exact h value slice pins s σ H x y v u Q I rx ry q hs
  · exact h' value slice pins s σ H x y v u Q I rx ry q hs
theorem MtR.or {id : String} {r r' : V → List V → Hp → VK → Prop} (h : MtR X id r) (h' : MtR X id r') : MtR X id (fun x xs H Q => r x xs H Q ∨ r' x xs H Q) := by
  intro pins s σ H x xs v us Q I rx rs q
  rcases q with q | q
  · exact h pins s σ H x xs v us Q I rx rs q
  · exact h' pins s σ H x xs v us Q I rx rs q
/-- a[b] -/
theorem pe_ix {r : R2} (hr : IxR X r) (ha : PE X a ta) (hb : PE X b tb) (hs : PlainIx b) : PE X (.Subscript a b pos) (tOp r ta tb) := by
  intro pins s σ H Q I h
  exact Subscript_ (binT ha hb I h fun v u s2 x y H2 I2 rx ry q => hr a b pins s2 σ H2 x y v u Q I2 rx ry q (hs _ _))

def rIxL (K : PySem.W.Frag) : R2 := fun x y H Q => ∃ p xs i v, x = .ref p ∧ y = .int i ∧ SqL K H p xs ∧ atI xs i = some v ∧ Q v H
def rIxT (K : PySem.W.Frag) : R2 := fun x y H Q => ∃ p xs i v, x = .ref p ∧ y = .int i ∧ SqT K H p xs ∧ atI xs i = some v ∧ Q v H
def rIxS : R2 := fun x y H Q => ∃ z i c, x = .str z ∧ y = .int i ∧ z.length ≤ sizeLine ∧ atI z.cps.toList i = some c ∧ Q (.str ⟨#[c]⟩) H
theorem ix_list : IxR X (rIxL X.K) := by
  intro value slice pins s σ H x y v u Q I rx ry h hs
  obtain ⟨p, xs, i, z, rfl, rfl, hq, he, q⟩ := h
  cases rx
  obtain ⟨t, rfl⟩ := ry
  obtain ⟨its, r, pl, hz⟩ := I.list hq
  obtain ⟨j, h1, h2, h3, h4, h5⟩ := atI_get he
  obtain ⟨w, ew, rw'⟩ := r.get h2
  have hl := r.length
  have hn := line63
  have fin : EP X pins σ Q w s := ⟨z, H, I, rw', q⟩
  by_cases h0 : 0 ≤ i
  · have hj : i.toNat = j := by
      rw [seqIndex_of h0 h5] at h1
      exact Option.some.inj h1
    exact item_listR pl.isList h0 (by omega) (by rw [hj]; simpa using ew) fin hs
  · have hj : (i + (its.toArray.size : Int)).toNat = j := by
      rw [seqIndex_neg (by omega) h4] at h1
      rw [List.size_toArray, ← hl]
      exact Option.some.inj h1
    exact subscriptTail_builtinR (x := w) pl.isList.typeIs slot_list_getitem.lookup
      (wpAny_getItem_list_neg (Q := fun r s' => r = w ∧ EP X pins σ Q r s') pl.isList (by omega) (by rw [List.size_toArray] <;> omega) (by omega) (by rw [hj]; simpa using ew) ⟨rfl, fin⟩) hs
theorem ix_tup : IxR X (rIxT X.K) := by
  intro value slice pins s σ H x y v u Q I rx ry h hs
  obtain ⟨p, xs, i, z, rfl, rfl, hq, he, q⟩ := h
  cases rx
  obtain ⟨t, rfl⟩ := ry
  obtain ⟨its, r, pl, hz⟩ := I.tuple hq
  obtain ⟨j, h1, h2, h3, h4, h5⟩ := atI_get he
  obtain ⟨w, ew, rw'⟩ := r.get h2
  have hl := r.length
  have hn := line63
  have fin : EP X pins σ Q w s := ⟨z, H, I, rw', q⟩
  exact subscriptTail_builtinR (x := w) pl.typeIs slot_tuple_getitem.lookup
    (getItem_tuple (j := j) (Q := fun r s' => r = w ∧ EP X pins σ Q r s') pl (by omega) (by omega) (by rw [List.size_toArray, ← hl]; exact h1) (by simpa using ew) ⟨rfl, fin⟩) hs
theorem ix_str : IxR X rIxS := by
  intro value slice pins s σ H x y v u Q I rx ry h hs
  obtain ⟨z, i, c, rfl, rfl, hz, he, q⟩ := h
  obtain ⟨t, rfl⟩ := rx
  obtain ⟨t', rfl⟩ := ry
  obtain ⟨j, h1, h2, h3, h4, h5⟩ := atI_get he
  have hl : z.cps.toList.length = z.length := by simp [Str.length]
  rw [hl] at h1 h4 h5
  have hn := line63
  exact tail_any (typeIs_str s z t) slot_str_getitem.lookup (getItem_str (c := c) (by
    have e1 : decide (i < -(2 ^ 63 : Int)) = false := decide_eq_false (by omega)
    have e2 : decide (i ≥ 2 ^ 63) = false := decide_eq_false (by omega)
    rw [e1, e2, Bool.or_false]) (by rw [h1]; simpa using h2) ⟨.str ⟨#[c]⟩, H, I.tok _, I.tkS, q⟩) hs
/-- list, tuple or str -/
def rIx (K : PySem.W.Frag) : R2 := fun x y H Q => rIxL K x y H Q ∨ rIxT K x y H Q ∨ rIxS x y H Q
theorem ix_seq : IxR X (rIx X.K) := ix_list.or (ix_tup.or ix_str)

theorem Inv.lst {pins : List (Addr × Obj)} {σ : St} {H : Hp} {s : Shared} {p : Addr} {xs : List V} (I : Inv X pins σ H s) (h : H p = some (.lst xs)) :
    ∃ (its : List Value) (n : Nat), Vals s.toks xs its ∧ s.heap.get? p = some { cls := .type "list", data := .seq its.toArray n } ∧ xs.length ≤ sizeLine := by
  obtain ⟨z, its, n, r, e⟩ := I.hok p _ h
  exact ⟨its, n, r, e, z⟩
theorem slice_bounds (lo hi : Option Int) (n : Nat) : (sliceBounds lo hi none n).1 = ((HT.sIx n 0 lo : Nat) : Int) ∧ (sliceBounds lo hi none n).2.1 = ((HT.sIx n n hi : Nat) : Int) ∧ (sliceBounds lo hi none n).2.2 = 1 := by
  refine ⟨?_, ?_, rfl⟩
  · cases lo with
    | none => simp [sliceBounds, HT.sIx]
    | some i =>
      simp only [sliceBounds, HT.sIx, Option.getD_none, show (1 : Int) > 0 by decide, if_true]
      by_cases h : i < 0
      · simp only [h, if_true] <;> omega
      · simp only [h, if_false] <;> omega
  · cases hi with
    | none => simp [sliceBounds, HT.sIx]
    | some i =>
      simp only [sliceBounds, HT.sIx, Option.getD_none, show (1 : Int) > 0 by decide, if_true]
      by_cases h : i < 0
      · simp only [h, if_true] <;> omega
      · simp only [h, if_false] <;> omega
theorem slicePick_cut (its : List Value) (lo hi : Option Int) : slicePick its.toArray lo hi none = ((its.drop (HT.sIx its.length 0 lo)).take (HT.sIx its.length its.length hi - HT.sIx its.length 0 lo)).toArray := by
  obtain ⟨h1, h2, h3⟩ := slice_bounds lo hi its.toArray.size
  unfold slicePick
  rw [h1, h2, h3]
  simp only [sliceRange_one, pick_run, List.size_toArray] <;> rfl
/-- xs[lo:hi] of a list: a new list -/
def rSlL (K : PySem.W.Frag) : V → Option Int → Option Int → Hp → VK → Prop := fun x lo hi H Q => ∃ a xs, x = .ref a ∧ SqL K H a xs ∧ ∀ p, H p = none → Q (.ref p) (upd H p (.lst (cutV xs lo hi)))
theorem sl_list : SlR X (rSlL X.K) := by
  intro pins s σ H x v vl vu lo hi sl Q I rx hs pl pu h
  obtain ⟨a, xs, rfl, hx, q⟩ := h
  cases rx
  obtain ⟨its, r, ht, hz⟩ := I.list hx
  have hlen := r.length
  refine ⟨"list", _, slot_list_getitem.lookup, ht.isList.typeIs, ?_⟩
  refine wpAny_getItem_list_slice ht.isList hs pl pu .none (by simp) ?_ (by rw [List.size_toArray] <;> omega)
  rw [slicePick_cut, ← hlen]
  refine ⟨.ref s.heap.objs.size, _, I.laid (t' := s.toks) (o := .lst (cutV xs lo hi)) (fun b ob q => Heap.get?_push_of_some _ q) (Nat.le_refl _) ?_, rfl, q _ (I.hok.fresh (Nat.le_refl _))⟩
  exact ⟨Nat.le_trans (cutV_length xs lo hi) hz, _, 0, (r.drop (HT.sIx xs.length 0 lo)).take (HT.sIx xs.length xs.length hi - HT.sIx xs.length 0 lo), Heap.get?_push_size _ rfl⟩

theorem call_len_seq : CallR X (.builtin "len") (fun xs H Q => ∃ p ys, xs = [.ref p] ∧ (SqL X.K H p ys ∨ SqT X.K H p ys) ∧ Q (.int ys.length) H) := by
  intro pins s σ H xs us Q I r h
  obtain ⟨p, ys, rfl, hq, q⟩ := h
  obtain ⟨u, rfl, rx⟩ := vals1 r
  cases rx
  have hn := line63
  rcases hq with hq | hq
  · obtain ⟨its, r', pl, hz⟩ := I.list hq
    have hlen := r'.length
    exact Calls.call_len_list pl.isList (by simp only [List.size_toArray] <;> omega) ⟨.int ys.length, H, I.tok _, ⟨s.toks + 1, by rw [List.size_toArray, hlen]⟩, q⟩
  · obtain ⟨its, r', pl, hz⟩ := I.tuple hq
    have hlen := r'.length
    exact len_tuple pl (by simp only [List.size_toArray] <;> omega) ⟨.int ys.length, H, I.tok _, ⟨s.toks + 1, by rw [List.size_toArray, hlen]⟩, q⟩
theorem call_len_str : CallR X (.builtin "len") (fun xs H Q => ∃ z, xs = [.str z] ∧ z.length ≤ sizeLine ∧ Q (.int z.length) H) := by
  intro pins s σ H xs us Q I r h
  obtain ⟨z, rfl, hz, q⟩ := h
  obtain ⟨u, rfl, t, rfl⟩ := vals1 r
  have hn := line63
  exact len_str (by omega) ⟨.int z.length, H, I.tok _, ⟨_, rfl⟩, q⟩
theorem CallR.or {f : Value} {r r' : List V → Hp → VK → Prop} (h : CallR X f r) (h' : CallR X f r') : CallR X f (fun xs H Q => r xs H Q ∨ r' xs H Q) := by
  intro pins s σ H xs us Q I rs q
  rcases q with q | q
  · exact h pins s σ H xs us Q I rs q
  · exact h' pins s σ H xs us Q I rs q
theorem call_tuple_of : CallR X (.type "tuple") (fun xs H Q => ∃ p ys, xs = [.ref p] ∧ ((SqL X.K H p ys ∧ ∀ l, H l = none → Q (.ref l) (upd H l (.tup ys))) ∨ (SqT X.K H p ys ∧ Q (.ref p) H))) := by
  intro pins s σ H xs us Q I r h
  obtain ⟨p, ys, rfl, h⟩ := h
  obtain ⟨u, rfl, rx⟩ := vals1 r
  cases rx
  rcases h with ⟨hq, q⟩ | ⟨hq, q⟩
  · obtain ⟨its, r', pl, hz⟩ := I.list hq
    have hlen := r'.length
    refine call_tuple_list pl.isList (fun h' kp => ?_) (by simp only [List.size_toArray] <;> omega)
    have I1 : Inv X pins σ H { s with heap := h' } := I.kept (t' := s.toks) kp
    have I2 : Inv X pins σ (upd H h'.objs.size (.tup ys)) { s with heap := h'.push { cls := .type "tuple", data := .seq its.toArray } } :=
      I1.laid (t' := s.toks) (fun b o e => Heap.get?_push_of_some _ e) (Nat.le_refl _) (show ObjOk X.prog X.w _ _ _ _ (.tup ys) from ⟨hz, its, r', IsTup.new _ _⟩)
    exact ⟨.ref h'.objs.size, _, I2, rfl, q _ (I1.hok.fresh (Nat.le_refl _))⟩
  · obtain ⟨its, r', pl, hz⟩ := I.tuple hq
    exact call_tuple_same pl ⟨.ref p, H, I, rfl, q⟩

/-- the value is of that builtin type -/
def tyV (K : PySem.W.Frag) (T : String) (x : V) (H : Hp) : Prop := match x with
  | .str _ => T = "str"
  | .int _ => T = "int"
  | .ref p => (T = "list" ∧ ∃ xs, SqL K H p xs) ∨ (T = "tuple" ∧ ∃ o, K.lookup p = some o ∧ o.cls = .type "tuple" ∧ o.dict = none) ∨
      (T = "dict" ∧ ((∃ kvs, H p = some (.dK kvs)) ∨ ∃ kvs, H p = some (.dT kvs))) ∨ (T = "set" ∧ ∃ S n, H p = some (.set S n))
  | _ => False
theorem tyV_is {pins : List (Addr × Obj)} {σ : St} {H : Hp} {s : Shared} {T : String} {x : V} {v : Value} (I : Inv X pins σ H s) (r : RelV s.toks x v) (ty : tyV X.K T x H) :
    s.TypeIs v T ∧ ∀ a, v = .ref a → ∃ ob, s.heap.get? a = some ob ∧ ob.dict = none := by
  cases x with
  | str z =>
    obtain ⟨t, rfl⟩ := r
    cases (show T = "str" from ty)
    exact ⟨typeIs_str s z t, fun _ e => nomatch e⟩
  | int i =>
    obtain ⟨t, rfl⟩ := r
    cases (show T = "int" from ty)
    exact ⟨typeIs_int s i t, fun _ e => nomatch e⟩
  | ref p =>
    cases r
    rcases ty with ⟨rfl, xs, hq⟩ | ⟨rfl, o, hk, hc, hd⟩ | ⟨rfl, hk⟩ | ⟨rfl, S, n, hk⟩
    · obtain ⟨its, _, pl, _⟩ := I.list hq
      refine ⟨pl.isList.typeIs, fun a e => ?_⟩
      cases e
      obtain ⟨o, n, e, c, hd, _⟩ := pl
      exact ⟨o, e, hd⟩
    · refine ⟨⟨o, I.kIn p o hk, hc⟩, fun a e => ?_⟩
      cases e
      exact ⟨o, I.kIn _ o hk, hd⟩
    · have z : ∃ o, s.heap.get? p = some o ∧ o.ExactDict := by
        rcases hk with ⟨kvs, hk⟩ | ⟨kvs, hk⟩
        · obtain ⟨_, _, _, _, o, _, _, e, ex, _⟩ := I.hok p _ hk
          exact ⟨o, e, ex⟩
        · obtain ⟨_, _, _, _, o, _, _, e, ex, _⟩ := I.hok p _ hk
          exact ⟨o, e, ex⟩
      obtain ⟨o, e, ex⟩ := z
      refine ⟨⟨o, e, ex.1⟩, fun a e2 => ?_⟩
      cases e2
      exact ⟨o, e, ex.2.1⟩
    · obtain ⟨o, _, _, _, e, ex, _⟩ := I.hok p _ hk
      refine ⟨⟨o, e, ex.1⟩, fun a e2 => ?_⟩
      cases e2
      exact ⟨o, e, ex.2.1⟩
  | _ => exact False.elim ty
variable {o e : Expr} {es : List Expr} {to : TE} {t : TA} {name : Str} {apos cpos : Pos} {T id : String} {r : V → List V → Hp → VK → Prop}
end
end L2

namespace L2
variable {nk : Nat}
open PySem PySem.Spec PyProof.Rows

def MtM (X : Cx) (id : String) (r : V → List V → Hp → VK → Prop) : Prop :=
  ∀ (pins : List (Addr × Obj)) (s : Shared) (σ : St) (H : Hp) (x : V) (xs : List V) (v : Value) (us : List Value) (Q : VK), Inv X pins σ H s → RelV s.toks x v → Vals s.toks xs us → r x xs H Q →
    wpAny (model X.prog X.w) X.A (call (.builtin id) (v :: us)) (EP X pins σ Q) X.xe s

theorem Vals.one {x : V} {us : List Value} (h : Vals nk [x] us) : ∃ u, us = [u] ∧ RelV nk x u := by cases h with | cons r t => cases t; exact ⟨_, rfl, r⟩
theorem Vals.two {x y : V} {us : List Value} (h : Vals nk [x, y] us) : ∃ u v, us = [u, v] ∧ RelV nk x u ∧ RelV nk y v := by cases h with | cons r t => obtain ⟨v, rfl, q⟩ := Vals.one t; exact ⟨_, v, rfl, r, q⟩
theorem Vals.zero : ∀ {us : List Value}, Vals nk [] us → us = []
  | _, .nil => rfl
theorem Vals.dropLast {xs : List V} {us : List Value} (h : Vals nk xs us) : Vals nk xs.dropLast us.dropLast := by
  induction h with
  | nil => exact .nil
  | cons r t ih =>
    cases t with
    | nil => exact .nil
    | cons q t' => exact .cons r ih
theorem Vals.eraseIdx : ∀ {xs : List V} {us : List Value} (i : Nat), Vals nk xs us → Vals nk (xs.eraseIdx i) (us.eraseIdx i)
  | _, _, _, .nil => .nil
  | _, _, 0, .cons _ t => t
  | _, _, i + 1, .cons r t => .cons r (Vals.eraseIdx i t)
theorem Vals.reverse {xs : List V} {us : List Value} (h : Vals nk xs us) : Vals nk xs.reverse us.reverse := by
  induction h with
  | nil => exact .nil
  | cons r t ih => rw [List.reverse_cons, List.reverse_cons]; exact Vals.append ih (.cons r .nil)
theorem erase_last {α : Type} (l : List α) : l.eraseIdx (l.length - 1) = l.dropLast := by
  induction l with
  | nil => rfl
  | cons a r ih =>
    cases r with
    | nil => rfl
    | cons b r =>
      have e : (a :: b :: r).length - 1 = ((b :: r).length - 1) + 1 := by
        have h1 : (a :: b :: r).length = r.length + 2 := rfl
        have h2 : (b :: r).length = r.length + 1 := rfl
        omega
      rw [e, List.eraseIdx_cons_succ, ih]
      all_goals rfl
section
variable {X : Cx} {pins : List (Addr × Obj)} {σ : St} {H : Hp} {s : Shared} {l b : Addr} {xs ys zs : List V}

theorem Inv.lset {its its' : List Value} {n : Nat} {f : Array Value → Array Value} {t' : Nat} (I : Inv X pins σ H s) (hH : H l = some (.lst xs))
    (e : s.heap.get? l = some { cls := .type "list", data := .seq its.toArray n }) (hf : f its.toArray = its'.toArray) (hv : Vals t' ys its') (hz : ys.length ≤ sizeLine) (hk : s.toks ≤ t' := by first | exact Nat.le_refl _ | exact Nat.le_succ _ | assumption | omega) :
    Inv X pins σ (upd H l (.lst ys)) { s with heap := s.heap.update l (Obj.mapSeq f), toks := t' } := by
  have q := PySem.IsL.update e f
  rw [hf] at q
  refine I.write (x := l) (e := l) (by rw [hH]; exact trivial) (.inl rfl) (fun b' u hb hu => (Heap.get?_update_other s.heap (Obj.mapSeq f) (Ne.symm hb)).trans hu) ⟨_, q⟩ ?_
  exact ⟨hz, its', _, hv, q⟩
theorem Inv.lnew {its : List Value} {t' : Nat} (I : Inv X pins σ H s) (hv : Vals t' ys its) (hz : ys.length ≤ sizeLine) (hk : s.toks ≤ t' := by first | exact Nat.le_refl _ | exact Nat.le_succ _ | assumption | omega) :
    Inv X pins σ (upd H s.heap.objs.size (.lst ys)) { s with heap := s.heap.push { cls := .type "list", data := .seq its.toArray }, toks := t' } :=
  I.laid (fun _ _ q => Heap.get?_push_of_some _ q) (Nat.le_refl _) ⟨hz, its, 0, hv, Heap.get?_push_size _ rfl⟩
theorem Inv.fresh (I : Inv X pins σ H s) : H s.heap.objs.size = none := I.hok.fresh (Nat.le_refl _)
theorem Inv.lstM (I : Inv X pins σ H s) (hH : H l = some (.lst xs)) : xs.length ≤ sizeLine ∧ ∃ (its : List Value) (n : Nat), Vals s.toks xs its ∧ xs.length = its.length ∧ s.heap.get? l = some { cls := .type "list", data := .seq its.toArray n } := by
  obtain ⟨z, its, n, r, e⟩ := I.hok l _ hH
  exact ⟨z, its, n, r, r.length, e⟩

end

section
variable {X : Cx}

def rAppend : V → List V → Hp → VK → Prop := fun x vs H Q => ∃ l xs y, x = .ref l ∧ vs = [y] ∧ H l = some (.lst xs) ∧ xs.length < sizeLine ∧ Q .non (upd H l (.lst (xs ++ [y])))
theorem mt_append : MtM X "list.append" rAppend := by
  intro pins s σ H x vs v us Q I rx rv h
  obtain ⟨l, xs, y, rfl, rfl, hH, hz, q⟩ := h
  cases rx
  obtain ⟨u, rfl, ru⟩ := rv.one
  obtain ⟨z, its, n, r, hl, e⟩ := I.lstM hH
  refine call_meets F.slot_list_append ⟨_, e, rfl⟩ F.entry_list_append (F.args_list_append_2 _ _) (PySem.list_append l its.toArray n u (by rw [List.size_toArray]; omega)) ⟨e, ?_⟩
  refine ⟨.non, _, I.lset (its' := its ++ [u]) hH e (by simp) (r.append (.cons ru .nil)) ?_, rfl, q⟩
  rw [List.length_append, List.length_singleton]
  omega

def rPop : V → List V → Hp → VK → Prop := fun x vs H Q => ∃ l xs y, x = .ref l ∧ vs = [] ∧ H l = some (.lst xs) ∧ xs[xs.length - 1]? = some y ∧ Q y (upd H l (.lst xs.dropLast))
theorem mt_pop : MtM X "list.pop" rPop := by
  intro pins s σ H x vs v us Q I rx rv h
  obtain ⟨l, xs, y, rfl, rfl, hH, hy, q⟩ := h
  cases rx
  have hus := rv.zero
  subst hus
  obtain ⟨z, its, n, r, hl, e⟩ := I.lstM hH
  obtain ⟨u, hu, ru⟩ := r.get hy
  have hy' : its.toArray[its.toArray.size - 1]? = some u := by
    show its.toArray[its.length - 1]? = some u
    rw [← Array.getElem?_toList, ← hl]
    exact hu
  refine call_meets F.slot_list_pop ⟨_, e, rfl⟩ F.entry_list_pop (F.args_list_pop_1 _) (MeetsSeq.list_pop_last l its.toArray n u hy' (by rw [List.size_toArray]; omega)) ⟨e, ?_⟩
  refine ⟨y, _, I.lset (its' := its.dropLast) hH e ?_ r.dropLast ?_, ru, q⟩
  · show its.toArray.eraseIdxIfInBounds (its.toArray.size - 1) = its.dropLast.toArray
    rw [List.size_toArray, List.eraseIdxIfInBounds_toArray, erase_last]
  · rw [List.length_dropLast]
    omega

def rCat : R2 := fun x y H Q => ∃ l b xs zs, x = .ref l ∧ y = .ref b ∧ H l = some (.lst xs) ∧ H b = some (.lst zs) ∧ xs.length + zs.length ≤ sizeLine ∧ ∀ p, H p = none → Q (.ref p) (upd H p (.lst (xs ++ zs)))
theorem op_cat : OpR X (binaryOp .Add) rCat := by
  intro pins s σ H x y v u Q I rx ry h
  obtain ⟨l, b, xs, zs, rfl, rfl, hH, hB, hz, q⟩ := h
  cases rx
  cases ry
  obtain ⟨z, its, n, r, hl, e⟩ := I.lstM hH
  obtain ⟨z2, its2, n2, r2, hl2, e2⟩ := I.lstM hB
  refine PySem.P.add_list e e2 ?_ (by rw [List.size_toArray, List.size_toArray]; omega)
  have ea : its.toArray ++ its2.toArray = (its ++ its2).toArray := by simp
  rw [ea]
  exact ⟨.ref _, _, I.lnew (t' := s.toks) (r.append r2) (by rw [List.length_append]; omega), rfl, q _ I.fresh⟩
end

section
variable {prog : Program} {w : World} {A : Around} {E : Value → Shared → Prop} {s : Shared}
end

section
variable {X : Cx}
end
end L2

namespace Att
open PySem PySem.W PySem.Calls PyProof.Rows

theorem ints_of_wellAll {P : Params} {h : Heap} : ∀ (ns : List Int) (vs : List Value), WellAll P h vs (ns.map WData.int) → IntsAre vs ns := by
  intro ns
  induction ns with
  | nil =>
    intro vs w
    rw [List.map_nil] at w
    cases w
    exact .nil
  | cons n ns ih =>
    intro vs w
    rw [List.map_cons] at w
    cases w with
    | cons a b =>
      cases a
      exact .cons _ _ (ih _ b)

theorem script_of {l : OpenLaw} {n : Nat} (hn : l.most = some n) {P : Params} {h : Heap} {args : List WData} {vals : List Value}
    (hpre : l.row.toRowW.claim.pre args = true) (hwl : WellAll P h vals args) :
    ∃ a vs ns, vals = [Value.ref a] ∧ args = [WData.list (ns.map WData.int)] ∧ h.get? a = some { cls := .type "list", data := .seq vs.toArray } ∧ IntsAre vs ns ∧ ns.length ≤ n := by
  have hsh : WShape.hasAll [] args [.list .int] = true := (pre_splitW hpre).1
  have hc : l.pre.holds [] { args := args } = true := (pre_splitW hpre).2
  obtain ⟨d, r, rfl, h1, h2⟩ := hasAllW_cons hsh
  obtain rfl := hasAllW_nil h2
  obtain ⟨xs, rfl, h3⟩ := hasW_list h1
  obtain ⟨ns, rfl⟩ := items_int h3
  have hlen : ns.length ≤ n := by
    unfold OpenLaw.pre at hc
    have h4 : (WTm.not (.lt (.lit (.int (n : Int))) (.len (.arg 0)))).holds [] { args := [.list (ns.map .int)] } = true := by
      have h4 := (holds_andW hc).1
      rw [hn] at h4
      exact h4
    have h5 := condW_of h4 (w_not (w_lt w_lit (w_len_list (w_arg rfl))))
    rw [List.length_map] at h5
    refine Nat.le_of_not_lt fun q => ?_
    have q' : (n : Int) < ((ns.length : Nat) : Int) := by omega
    first
      | (rw [decide_eq_true q'] at h5; exact absurd h5 (by decide))
      | (simp at h5; omega)
  cases hwl with
  | cons w1 w2 =>
    cases w2
    cases w1 with
    | list ho hall => exact ⟨_, _, ns, rfl, rfl, ho, ints_of_wellAll ns _ hall, hlen⟩

theorem post_true (l : OpenLaw) (args : List WData) : l.row.toRowW.claim.post args (.bool true) args = true :=
  postW_of (r := l.row.toRowW) (X := (true == true))
    (show WShape.has [] (.bool true) .bool = true by first | rfl | decide | simp [WShape.has, WShape.arms, WShape.armsAll])
    (show (WTm.eq .res (.lit (.bool true))).value [] { args := args, res := some (.bool true), after := args } = some (.bool (true == true)) from w_eq_bool (w_res rfl) w_lit) rfl

/-- the same from a codeAny of the CALL (for a layer whose function contracts speak of calls) -/
theorem attach_call {l : OpenLaw} {n : Nat} {q : Program} {loose : List Str} {XP : (Str → Option Value) → Heap → Prop} {YP : World → Heap → Prop} {d : DefRec}
    (hn : l.most = some n) (hdf : d.params.defaults = [])
    (call : ∀ (w : World) (s₀ s₁ : Shared) (mg mb : Str → Option Value) (fa : Addr) (o : Obj) (pm cd doc : Value) (a : Addr) (vs : List Value) (ns : List Int),
      Ground q loose [] XP w s₀ mg mb s₁.heap → YP w s₁.heap →
      s₁.heap.get? fa = some o → o.data = .func (docDef d.name d.params d.body d.scope pm cd doc) → s₁.heap.CodeRec cd d.name → mg d.name = some (.ref fa) →
      s₁.heap.get? a = some { cls := .type "list", data := .seq vs.toArray } → IntsAre vs ns → ns.length ≤ n → s₁.gens = #[] →
      codeAny (model l.prog w) callerA (.call (.ref fa) ⟨[.ref a], []⟩) (fun r s' => r = .ok (.ret (.bool true)) ∧ OldK s₁.heap s'.heap ∧ s'.os = s₁.os ∧ AllBare s'.gens) s₁) :
    WalkO q loose XP YP l.row.toRowW d [] (fun f vs => PySem.call f vs) := by
  intro w s₀ s₁ mg mb G Y fa o pm cd doc dV kV ho hd hcd hD hmg hg args vals as hpre hlay hrd hwl hlo
  obtain rfl : dV = .none := Dflts.none hD hdf
  obtain rfl : kV = .none := Dflts.noKw hD
  obtain ⟨a, vs, ns, rfl, rfl, hobj, hints, hlen⟩ := script_of hn hpre hwl
  refine enter_call (codeAny_mono (call w s₀ s₁ mg mb fa o pm cd doc a vs ns G Y ho (fd_plain hd) hcd hmg hobj hints hlen hg) fun r s' hq => ?_)
  obtain ⟨rfl, h2, h3, h4⟩ := hq
  exact ⟨.inl ⟨.bool true, .bool true, [], rfl, fun _ => rfl, .bool true, post_true l _, fun _ => ⟨List.Pairwise.nil, fun _ hm => (nomatch hm)⟩⟩, h2, h3, h4⟩

section
variable {prog : Program} {w : World} {A : Around} {E : Value → Shared → Prop} {s : Shared} {K : Frag}

end
end Att

namespace L2
variable {nk : Nat}
open PySem PySem.Spec PyProof.Rows

theorem vals_ints : ∀ {vs : List Value} {ns : List Int}, IntsAre vs ns → Vals nk (ns.map V.int) vs
  | _, _, .nil => .nil
  | _, _, .cons n t h => .cons ⟨t, rfl⟩ (vals_ints h)

/-- nothing is tracked but the script, known to the object (or it is an object of the module) -/
def Only (H : Hp) : Prop := ∀ b, H b = none ∨ ∃ o xs, H b = some (.frz o (.lst xs))

/-- THE HEAD: the law's promise, at the heap behind the top. F, the promise of the law's def, may use that base is part of the heap (so K.In base, base.Ns mainGlobals mg stand in Mod) -/
theorem law_call {P : Program} {w : World} {K : PySem.W.Frag} {mg mb : Str → Option Value} {CX : CXT} {k : Nat} {fa a : Addr} {fd : FuncData} {x : Str} {sp : Sp} {s₁ : Shared} {vs : List Value} {ns : List Int}
    (KX : K.In s₁.heap) (hns : s₁.heap.Ns mainGlobals mg) (hb : s₁.heap.Ns builtinsNs mb) (hbb : ∀ x : Str, x ≠ "__name__" → mb x = bootBuiltins x) (hlim : s₁.heap.NoLimit) (hg : s₁.gens = #[])
    (ha : s₁.heap.get? a = some { cls := .type "list", data := .seq vs.toArray }) (hi : IntsAre vs ns) (hl : ns.length ≤ sizeLine) (hr : Room k callerA)
    (F : ∀ base : Heap, K.In base → base.Ns mainGlobals mg → FnOk P w K mg base CX k fa fd [x] sp) (hbind : ∀ (s : Shared) (u : Value), BindsTo s fd ⟨[u], []⟩ [(x, u)]) (hloc : fd.scope.names.lookup x = some .local)
    (hsp : ∀ H : Hp, Only H → SqL K H a (ns.map V.int) → sp [.ref a] H (fun v _ => v = .bl true) fun _ _ _ => False)
    (hCX : ∀ H e s', CX [] H s₁ (fun _ _ _ => False) e s' → False) :
    codeAny (model P w) callerA (.call (.ref fa) ⟨[.ref a], []⟩) (fun r s' => r = .ok (.ret (.bool true)) ∧ OldK s₁.heap s'.heap ∧ s'.os = s₁.os ∧ AllBare s'.gens) s₁ := by
  have rv : Vals 0 _ _ := vals_ints hi
  have lenV := hi.length
  -- from an abstract heap in which nothing but the script may be tracked
  have core : ∀ H : Hp, Only H → SqL K H a (ns.map V.int) → HOk P w s₁.toks H s₁.heap → (∀ b, H b ≠ none → b = a) → (H a ≠ none → K.lookup a = none) →
      codeAny (model P w) callerA (.call (.ref fa) ⟨[.ref a], []⟩) (fun r s' => r = .ok (.ret (.bool true)) ∧ OldK s₁.heap s'.heap ∧ s'.os = s₁.os ∧ AllBare s'.gens) s₁ := by
    intro H hO hS hok hA hK
    have base_of : ∀ {b : Addr} {o : Obj}, s₁.heap.get? b = some o → H b = none → (hidT s₁.heap H).get? b = some o := fun e n => hidT_get e n
    have noA : ∀ {b : Addr} {o : Obj} {es : Array DictEntry} {ep : Nat}, s₁.heap.get? b = some o → o.data = .dict es ep → H b = none := fun {b o es ep} e d => by
      cases q : H b with
      | none => rfl
      | some u =>
        have e' : b = a := hA b (by rw [q]; simp)
        subst e'
        rw [ha] at e; cases e
        have d' : Data.seq vs.toArray _ = Data.dict es ep := d
        cases d'
    have nsK : ∀ {b : Addr} {m : Str → Option Value}, s₁.heap.Ns b m → (hidT s₁.heap H).Ns b m := fun {b m} ⟨o, es, ep, e, d, r⟩ => ⟨o, es, ep, base_of e (noA e d), d, r⟩
    have hKb : K.In (hidT s₁.heap H) := fun b o e => base_of (KX b o e) (by
      cases q : H b with
      | none => rfl
      | some u =>
        have e' : b = a := hA b (by rw [q]; simp)
        subst e'
        rw [hK (by rw [q]; simp)] at e; cases e)
    have hM : Mod K mg (hidT s₁.heap H) := ⟨hKb, nsK hns, ⟨mb, nsK hb, hbb⟩, let ⟨mc, h1, h2⟩ := hlim; ⟨mc, nsK h1, h2⟩⟩
    have e0 : Env0 P w K mg (hidT s₁.heap H) callerA [] s₁ H := ⟨rfl, hM, fun b o e => of_hidT e, Nat.le_of_eq (hidT_size _ _), trivial, fun b hb => absurd (show b ∈ ([] : List Addr) from hb) (by simp), hok, .of_eq hg⟩
    refine codeAny_mono ((F _ hKb (nsK hns)).run callerA [] s₁ H ⟨[.ref a], []⟩ [.ref a] [.ref a] _ _ hr e0 (.inr ⟨x, rfl, hloc⟩) (hbind s₁ (.ref a)) (.cons rfl .nil) (hsp H hO hS)) fun r s' h => ?_
    cases r with
    | error e => exact (hCX H e s' h).elim
    | ok fl =>
      cases fl with
      | next => exact False.elim h
      | brk => exact False.elim h
      | cont => exact False.elim h
      | ret u =>
        obtain ⟨v, H', os, bare, un, hok', r', q⟩ := h
        have q' : v = .bl true := q
        subst q'
        obtain rfl : u = Value.bool true := r'
        refine ⟨rfl, OldK.of_keep fun b o e => ?_, os, bare⟩
        cases q : H b with
        | none => exact un.keep b o e q (by intro z; exact absurd (show b ∈ ([] : List Addr) from z) (by simp)) (by simp)
        | some u =>
          rcases hO b with z | ⟨ob, xs, z⟩
          · rw [q] at z; cases z
          · have z2 := un.frzs b ob _ z
            obtain ⟨e1, _⟩ := hok b _ z
            obtain ⟨e2, _⟩ := hok' b _ z2
            rw [e] at e1; cases e1
            exact e2
  cases hk : K.lookup a with
  | some o =>
    -- the script is one of the module's own objects
    have e := KX a o hk
    rw [ha] at e
    cases e
    refine core (fun _ => none) (fun _ => .inl rfl) (.inr ⟨_, vs.toArray, _, hk, rfl, rfl, rfl, by rw [List.size_toArray, lenV]; exact hl, by simpa using rv⟩) (fun b u z => by have z' : (none : Option HO) = some u := z; cases z') (fun b z => absurd rfl z) fun z => absurd rfl z
  | none =>
    refine core (fun b => if b = a then some (.frz { cls := .type "list", data := .seq vs.toArray } (.lst (ns.map V.int))) else none) (fun b => ?_) (.inl (.inr ⟨{ cls := .type "list", data := .seq vs.toArray }, if_pos rfl⟩)) (fun b u z => ?_) (fun b z => ?_) fun _ => hk
    · by_cases hb : b = a
      · exact .inr ⟨_, _, if_pos hb⟩
      · exact .inl (if_neg hb)
    · by_cases hb : b = a
      · have z' := (if_pos hb).symm.trans z
        cases z'
        subst hb
        exact ⟨ha, by rw [List.length_map]; exact hl, vs, _, rv.up (Nat.zero_le _), ha⟩
      · have z' := (if_neg hb).symm.trans z
        cases z'
    · by_cases hb : b = a
      · exact hb
      · exact absurd (if_neg hb) z
end L2

namespace L2
variable {nk : Nat}
open PySem PySem.Spec PyProof.Rows

/-- the goal that k_head leaves (case hc), from the law's promise. F gives the function object fd (K's own) once, then the promise over every base -/
theorem walk_of {l : PySem.W.OpenLaw} {n k : Nat} {q : Program} {loose : List Str} {XP : (Str → Option Value) → Heap → Prop} {YP : World → Heap → Prop} {d : DefRec} {K : Params → PySem.W.Frag} {CX : World → CXT} {sp : World → Sp} {x : Str}
    (hn : l.most = some n) (hn2 : n ≤ sizeLine) (hdf : d.params.defaults = []) (hr : Room k callerA)
    (hY : ∀ (w : World) (h : Heap), YP w h → (K w.params).In h)
    (F : ∀ (w : World) (mg : Str → Option Value) (fa : Addr) (h : Heap), (K w.params).In h → h.Ns mainGlobals mg → mg d.name = some (.ref fa) →
      ∃ fd : FuncData, fd.scope.names.lookup x = some .local ∧ (∀ (s : Shared) (u : Value), BindsTo s fd ⟨[u], []⟩ [(x, u)]) ∧
        ∀ base : Heap, (K w.params).In base → base.Ns mainGlobals mg → FnOk l.prog w (K w.params) mg base (CX w) k fa fd [x] (sp w))
    (hsp : ∀ (w : World) (H : Hp) (a : Addr) (ns : List Int), ns.length ≤ n → Only H → SqL (K w.params) H a (ns.map V.int) → sp w [.ref a] H (fun v _ => v = .bl true) fun _ _ _ => False)
    (hCX : ∀ (w : World) (H : Hp) (s : Shared) (e : Value) (s' : Shared), CX w [] H s (fun _ _ _ => False) e s' → False) :
    PySem.W.WalkO q loose XP YP l.row.toRowW d [] (fun f vs => PySem.call f vs) := by
  refine Att.attach_call hn hdf fun w s₀ s₁ mg mb fa o pm cd doc a vs ns G Y ho hd hcd hmg hobj hints hlen hg => ?_
  have KX := hY w _ Y
  obtain ⟨fd, hloc, hb, hF⟩ := F w mg fa _ KX G.T.g hmg
  exact law_call KX G.T.g G.T.b G.T.builtins G.T.nolimit hg hobj hints (Nat.le_trans hlen hn2) hr hF hb hloc (fun H hO hS => hsp w H a ns hlen hO hS) fun H e s' => hCX w H s₁ e s'
end L2


namespace L2
variable {nk : Nat}
open PySem PySem.Spec PyProof.Rows

def defArgs (s : Stmt) : Arguments := match s with
  | .FunctionDef _ a _ _ _ _ _ _ _ _ => a
  | _ => { posonlyargs := [], args := [], vararg := none, kwonlyargs := [], kw_defaults := [], kwarg := none, defaults := [] }
def defBody (s : Stmt) : List Stmt := match s with
  | .FunctionDef _ _ b _ _ _ _ _ _ _ => b
  | _ => []
def defScope (s : Stmt) : Scope := match s with
  | .FunctionDef _ _ _ _ _ _ sc _ _ _ => sc
  | _ => { kind := .function, names := [], isGenerator := false, isCoroutine := false }

abbrev CX0 : CXT := fun _ _ _ _ _ _ => False
abbrev E0 : XK := fun _ _ _ => False
structure Fun (K : PySem.W.Frag) (x qual : Str) (st : Stmt) (f : Addr) (fd : FuncData) : Prop where
  ex : ∃ (oc : Value) (od : Option Addr) (kV doc pm : Value) (an : Option Addr) (cdv ct : Value) (osl : Array (Option Value)),
    fd = PySem.W.fnOf x qual (defArgs st) (defBody st) (defScope st) .none kV doc pm an cdv ct ∧ K.lookup f = some ⟨oc, od, .func fd, osl⟩ ∧ PySem.W.codeIn K cdv qual = true
  kp : PySem.W.keepIn K (.ref f) = true
section
variable {P : Program} {w : World} {K : PySem.W.Frag} {mg : Str → Option Value} {base : Heap}
/-- THE RULE for a def: its body as a term of rules, and the reading of that term -/
theorem Fun.ok {x qual : Str} {st : Stmt} {f : Addr} {fd : FuncData} {N ps : List Str} {k : Nat} {sp : Sp} (F : Fun K x qual st f fd) (S : FnScope N ps (defScope st)) (len : ∀ vs H Q E, sp vs H Q E → vs.length = ps.length)
    (hbody : ∀ (cdv : Value) (A : Around) (outer : List Env) (s : Shared) (H : Hp) (vs : List V) (Q : VK) (E : XK), Room k (A.deeper (envOfC qual (defScope st) s.heap.objs.size f cdv)) → sp vs H Q E →
      ∃ t, PSs (cxOf CX0 P w K mg base N qual (defScope st) f cdv A outer s H E).nox (defBody st) t ∧ t { nx := fun _ H' => Q .non H', rt := Q } (start N vs) H) : FnOk P w K mg base CX0 (k + 1) f fd ps sp := by
  obtain ⟨oc, od, kV, doc, pm, an, cdv, ct, osl, rfl, lk, hcd⟩ := F.ex
  refine fn_of lk hcd S len fun A outer s H vs Q E hr hsp => ?_
  obtain ⟨t, h, q⟩ := hbody cdv A outer s H vs Q E hr hsp
  exact ⟨t, h.nox, q⟩
/-- how its arguments bind (no defaults): h is «fun _ _ _ _ _ _ us hl => match us, hl with | [_, _], _ => rfl», one _ a parameter -/
theorem Fun.binds {x qual : Str} {st : Stmt} {f : Addr} {fd : FuncData} {ps : List Str} (F : Fun K x qual st f fd)
    (h : ∀ (kV doc pm : Value) (an : Option Addr) (cdv ct : Value) (us : List Value), us.length = ps.length → bindArgs (PySem.W.fnOf x qual (defArgs st) (defBody st) (defScope st) .none kV doc pm an cdv ct) ⟨us, []⟩ = pure (ps.zip us)) : Binds K fd ps [] := by
  obtain ⟨oc, od, kV, doc, pm, an, cdv, ct, osl, rfl, lk, hcd⟩ := F.ex
  exact .all (h kV doc pm an cdv ct)
theorem fun_mk {x qual : Str} {st : Stmt} {f : Addr} {oc : Value} {od an : Option Addr} {osl : Array (Option Value)} {kV doc pm cdv ct : Value} (l : K.lookup f = some ⟨oc, od, .func (PySem.W.fnOf x qual (defArgs st) (defBody st) (defScope st) .none kV doc pm an cdv ct), osl⟩)
    (c : PySem.W.codeIn K cdv qual = true) (k : PySem.W.keepIn K (.ref f) = true) : Fun K x qual st f (PySem.W.fnOf x qual (defArgs st) (defBody st) (defScope st) .none kV doc pm an cdv ct) := ⟨⟨oc, od, kV, doc, pm, an, cdv, ct, osl, rfl, l, c⟩, k⟩
end
section
variable {X : Cx}
theorem pv (i : Nat) {x : Str} {pos : Pos} (hN : X.N[i]? = some x := by rfl) (hv : Vis X.env.scope x := by first | exact Or.inl rfl | exact Or.inr (Or.inl rfl) | exact Or.inr (Or.inr rfl)) (hd : (x == ("__debug__" : Str)) = false := by decide)
    (hcd : (x == ("__classdict__" : Str)) = false := by decide) : PE X (.Name x pos) (tVar i) := pe_var hN hv hd hcd
end

/-- all that was tracked is as it was -/
def Same (H H' : Hp) : Prop := ∀ b o, H b = some o → H' b = some o
theorem Same.refl (H : Hp) : Same H H := fun _ _ h => h
theorem Same.trans {H H1 H2 : Hp} (a : Same H H1) (b : Same H1 H2) : Same H H2 := fun c o h => b c o (a c o h)
theorem Same.free {H H' : Hp} (e : Same H H') {l : Addr} (h : H' l = Option.none) : H l = Option.none := by
  cases q : H l with
  | none => rfl
  | some o =>
    rw [e l o q] at h
    cases h
theorem Same.seq {K : PySem.W.Frag} {H H' : Hp} {a : Addr} {xs : List V} (e : Same H H') (h : SqL K H a xs) : SqL K H' a xs := by
  rcases h with (h | ⟨o, h⟩) | h
  · exact .inl (.inl (e _ _ h))
  · exact .inl (.inr ⟨o, e _ _ h⟩)
  · exact .inr h

end L2
set_option Elab.async false
set_option linter.all false
set_option maxRecDepth 100000










namespace L2
variable {nk : Nat}
open PySem PySem.Spec PyProof.Rows

section
variable {κ : Type} [DecidableEq κ]
def valV (kvs : List (κ × V)) (k : κ) : Option V := (kvs.find? fun kv => decide (kv.1 = k)).map (·.2)
def putK (kvs : List (κ × V)) (k : κ) (v : V) : List (κ × V) :=
  if (kvs.any fun kv => decide (kv.1 = k)) = true then kvs.map (fun kv => if kv.1 = k then (kv.1, v) else kv) else kvs ++ [(k, v)]
def dropK (kvs : List (κ × V)) (k : κ) : List (κ × V) := kvs.filter fun kv => decide (kv.1 ≠ k)

theorem valV_pos {p : κ × V} {r : List (κ × V)} {k : κ} (e : p.1 = k) : valV (p :: r) k = some p.2 := by simp [valV, List.find?_cons, e]
theorem valV_neg {p : κ × V} {r : List (κ × V)} {k : κ} (e : ¬ p.1 = k) : valV (p :: r) k = valV r k := by simp [valV, List.find?_cons, e]
theorem valV_any (k : κ) : ∀ kvs : List (κ × V), (kvs.any fun kv => decide (kv.1 = k)) = (valV kvs k).isSome
  | [] => rfl
  | p :: r => by
    rw [List.any_cons]
    by_cases e : p.1 = k
    · simp only [valV_pos e, decide_eq_true e, Bool.true_or, Option.isSome_some]
    · rw [valV_neg e, decide_eq_false e, Bool.false_or]; exact valV_any k r
theorem RelO.isSome_eq {o : Option V} {u : Option Value} (r : RelO nk o u) : o.isSome = u.isSome := by
  cases o with
  | none => cases u with
    | none => rfl
    | some _ => exact (show False from r).elim
  | some _ => cases u with
    | none => exact (show False from r).elim
    | some _ => rfl
theorem RelO.getD {o : Option V} {u : Option Value} {d : V} {d' : Value} (r : RelO nk o u) (rd : RelV nk d d') : RelV nk (o.getD d) (u.getD d') := by
  cases o with
  | none => cases u with
    | none => exact rd
    | some _ => exact (show False from r).elim
  | some _ => cases u with
    | none => exact (show False from r).elim
    | some _ => exact r

theorem KV.val {kvs : List (κ × V)} {vs : List (κ × Value)} (r : KV nk kvs vs) (k : κ) : RelO nk (valV kvs k) (valueAt vs k) := by
  unfold KV at r
  induction r with
  | nil => exact True.intro
  | @cons p q ps qs h t ih =>
    obtain ⟨h1, h2⟩ := h
    by_cases e : p.1 = k
    · have e' : q.1 = k := h1.symm.trans e
      have b : valueAt (q :: qs) k = some q.2 := by simp [valueAt, List.find?_cons, e']
      rw [valV_pos e, b]; exact h2
    · have e' : ¬ q.1 = k := fun z => e (h1.trans z)
      have b : valueAt (q :: qs) k = valueAt qs k := by simp [valueAt, List.find?_cons, e']
      rw [valV_neg e, b]; exact ih
theorem KV.any {kvs : List (κ × V)} {vs : List (κ × Value)} (r : KV nk kvs vs) (k : κ) : (kvs.any fun kv => decide (kv.1 = k)) = vs.any fun kv => decide (kv.1 = k) := by
  unfold KV at r
  induction r with
  | nil => rfl
  | cons h t ih => rw [List.any_cons, List.any_cons, ih, h.1]
theorem KV.repl {kvs : List (κ × V)} {vs : List (κ × Value)} (r : KV nk kvs vs) (k : κ) {y : V} {u : Value} (ry : RelV nk y u) :
    KV nk (kvs.map fun kv => if kv.1 = k then (kv.1, y) else kv) (vs.map fun kv => if kv.1 = k then (kv.1, u) else kv) := by
  unfold KV at r ⊢
  induction r with
  | nil => exact .nil
  | @cons p q ps qs h t ih =>
    rw [List.map_cons, List.map_cons]
    refine .cons ?_ ih
    obtain ⟨h1, h2⟩ := h
    by_cases e : p.1 = k
    · rw [if_pos e, if_pos (h1.symm.trans e)]; exact ⟨h1, ry⟩
    · rw [if_neg e, if_neg (fun z => e (h1.trans z))]; exact ⟨h1, h2⟩
theorem KV.put {kvs : List (κ × V)} {vs : List (κ × Value)} (r : KV nk kvs vs) (k : κ) {y : V} {u : Value} (ry : RelV nk y u) : KV nk (putK kvs k y) (stored vs k u) := by
  unfold putK stored
  rw [r.any k]
  by_cases e : (vs.any fun kv => decide (kv.1 = k)) = true
  · rw [if_pos e, if_pos e]; exact r.repl k ry
  · rw [if_neg e, if_neg e]; exact Paired.snoc r ⟨rfl, ry⟩
theorem KV.drop {kvs : List (κ × V)} {vs : List (κ × Value)} (r : KV nk kvs vs) (k : κ) : KV nk (dropK kvs k) (without vs k) := by
  unfold KV at r ⊢
  unfold dropK without
  induction r with
  | nil => exact .nil
  | @cons p q ps qs h t ih =>
    obtain ⟨h1, h2⟩ := h
    rw [List.filter_cons, List.filter_cons]
    by_cases e : p.1 = k
    · have a : ¬ decide (p.1 ≠ k) = true := by simp [e]
      have b : ¬ decide (q.1 ≠ k) = true := by simp [h1.symm.trans e]
      rw [if_neg a, if_neg b]; exact ih
    · have e' : ¬ q.1 = k := fun z => e (h1.trans z)
      have a : decide (p.1 ≠ k) = true := by simp [e]
      have b : decide (q.1 ≠ k) = true := by simp [e']
      rw [if_pos a, if_pos b]; exact .cons ⟨h1, h2⟩ ih
theorem KV.keys {kvs : List (κ × V)} {vs : List (κ × Value)} (r : KV nk kvs vs) : kvs.map (·.1) = vs.map (·.1) := by
  unfold KV at r
  induction r with
  | nil => rfl
  | cons h t ih => rw [List.map_cons, List.map_cons, ih, h.1]
theorem KV.length {kvs : List (κ × V)} {vs : List (κ × Value)} (r : KV nk kvs vs) : kvs.length = vs.length := Paired.length r
end


theorem kV_is {P : Program} {w : World} {k : Key} {u : Value} (r : RelV nk (kV k) u) : (mixKind P w).is k u = true := by
  cases k with
  | inl i => obtain ⟨t, e⟩ := (show ∃ t, u = Value.int i t from r); subst e; exact mixKind_int P w i t
  | inr x => obtain ⟨t, e⟩ := (show ∃ t : Tk _ x, u = Value.str x t.1 from r); subst e; exact mixKind_str P w x t
theorem items_are {P : Program} {w : World} : ∀ {ks : List Key} {us : List Value}, Vals nk (ks.map kV) us → ItemsAre (mixKind P w) ks us
  | [], _, r => by rw [List.map_nil] at r; cases r; exact .nil
  | k :: ks, _, r => by
    rw [List.map_cons] at r
    cases r with
    | cons h t => exact .cons (kV_is h) (items_are t)

abbrev KT (nk : Nat) (H : Hp) : List (List Key × V) → List (List Key × Addr × Value) → Prop := Paired fun p q => p.1 = q.1 ∧ H q.2.1 = some (.tup (p.1.map kV)) ∧ RelV nk p.2 q.2.2
theorem KT.val {H : Hp} {kvs : List (List Key × V)} {xs : List (List Key × Addr × Value)} (r : KT nk H kvs xs) (k : List Key) : RelO nk (valV kvs k) ((atKey xs k).map (·.2)) := by
  induction r with
  | nil => exact True.intro
  | @cons p q ps qs h t ih =>
    obtain ⟨h1, _, h2⟩ := h
    by_cases e : p.1 = k
    · have e' : q.1 = k := h1.symm.trans e
      have b : atKey (q :: qs) k = some q.2 := by simp [atKey, List.find?_cons, e']
      rw [valV_pos e, b]; exact h2
    · have e' : ¬ q.1 = k := fun z => e (h1.trans z)
      have b : atKey (q :: qs) k = atKey qs k := by simp [atKey, List.find?_cons, e']
      rw [valV_neg e, b]; exact ih
theorem KT.repl {H : Hp} {kvs : List (List Key × V)} {xs : List (List Key × Addr × Value)} (r : KT nk H kvs xs) (k : List Key) {y : V} {u : Value} (ry : RelV nk y u) :
    KT nk H (kvs.map fun kv => if kv.1 = k then (kv.1, y) else kv) (xs.map (putAt k u)) := by
  induction r with
  | nil => exact .nil
  | @cons p q ps qs h t ih =>
    rw [List.map_cons, List.map_cons]
    refine .cons ?_ ih
    obtain ⟨h1, h2, h3⟩ := h
    unfold putAt
    by_cases e : p.1 = k
    · rw [if_pos e, if_pos (h1.symm.trans e)]; exact ⟨h1, h2, ry⟩
    · rw [if_neg e, if_neg (fun z => e (h1.trans z))]; exact ⟨h1, h2, h3⟩
theorem KT.put {H : Hp} {kvs : List (List Key × V)} {xs : List (List Key × Addr × Value)} (r : KT nk H kvs xs) (k : List Key) {b : Addr} {y : V} {u : Value} (hb : H b = some (.tup (k.map kV))) (ry : RelV nk y u) :
    KT nk H (putK kvs k y) (storedH xs k b u) := by
  have e : (kvs.any fun kv => decide (kv.1 = k)) = (atKey xs k).isSome := by
    rw [valV_any, (r.val k).isSome_eq, Option.isSome_map]
  unfold putK storedH
  rw [e]
  by_cases q : (atKey xs k).isSome = true
  · rw [if_pos q, if_pos q]; exact r.repl k ry
  · rw [if_neg q, if_neg q]; exact Paired.snoc r ⟨rfl, hb, ry⟩
theorem KT.keeps {H H' : Hp} {kvs : List (List Key × V)} {xs : List (List Key × Addr × Value)} (r : KT nk H kvs xs) (ht : ∀ b ys, H b = some (.tup ys) → H' b = some (.tup ys)) : KT nk H' kvs xs :=
  Paired.mapP r fun _ _ z => ⟨z.1, ht _ _ z.2.1, z.2.2⟩

section
variable {P : Program} {w : World} {H : Hp} {h : Heap} {a : Addr}
theorem key_of {ks : List Key} (ok : HOk P w nk H h) (e : H a = some (.tup (ks.map kV))) : (tupleKind (mixKind P w)).is h ks a := by
  obtain ⟨_, its, r, o, h1, h2, n, h3⟩ := (show ObjOk P w _ H h a (.tup (ks.map kV)) from ok a _ e)
  exact ⟨o, its.toArray, n, h1, h2, h3, by simpa using items_are r⟩
end

def DGet (H : Hp) (a : Addr) (y : V) (r : Option V) : Prop :=
  (∃ kvs k, Rd H a (.dK kvs) ∧ y = kV k ∧ r = valV kvs k) ∨ ∃ kvs k b, Rd H a (.dT kvs) ∧ y = .ref b ∧ H b = some (.tup (k.map kV)) ∧ r = valV kvs k
def DPut (H : Hp) (a : Addr) (y v : V) (H' : Hp) : Prop :=
  (∃ kvs k, H a = some (.dK kvs) ∧ y = kV k ∧ kvs.length < sizeLine ∧ H' = upd H a (.dK (putK kvs k v))) ∨
  ∃ kvs k b, H a = some (.dT kvs) ∧ y = .ref b ∧ H b = some (.tup (k.map kV)) ∧ kvs.length < sizeLine ∧ H' = upd H a (.dT (putK kvs k v))
theorem DGet.k {H : Hp} {a : Addr} {kvs : List (Key × V)} {k : Key} (e : H a = some (.dK kvs)) : DGet H a (kV k) (valV kvs k) := .inl ⟨kvs, k, .inl e, rfl, rfl⟩
theorem DGet.t {H : Hp} {a b : Addr} {kvs : List (List Key × V)} {k : List Key} (e : H a = some (.dT kvs)) (eb : H b = some (.tup (k.map kV))) : DGet H a (.ref b) (valV kvs k) := .inr ⟨kvs, k, b, .inl e, rfl, eb, rfl⟩
theorem DPut.k {H : Hp} {a : Addr} {kvs : List (Key × V)} {k : Key} {v : V} (e : H a = some (.dK kvs)) (hl : kvs.length < sizeLine) : DPut H a (kV k) v (upd H a (.dK (putK kvs k v))) := .inl ⟨kvs, k, e, rfl, hl, rfl⟩
theorem DPut.t {H : Hp} {a b : Addr} {kvs : List (List Key × V)} {k : List Key} {v : V} (e : H a = some (.dT kvs)) (eb : H b = some (.tup (k.map kV))) (hl : kvs.length < sizeLine) :
    DPut H a (.ref b) v (upd H a (.dT (putK kvs k v))) := .inr ⟨kvs, k, b, e, rfl, eb, hl, rfl⟩


section
variable {X : Cx} {pins : List (Addr × Obj)} {σ : St} {H : Hp} {s : Shared} {a : Addr} {y v : V} {u r : Value} {o : Option V} {A : Around} {E : Value → Shared → Prop}

theorem Inv.big (I : Inv X pins σ H s) : sysModules < s.heap.objs.size := by
  have h : mainGlobals < s.heap.objs.size := (I.mod.glob.keeps I.bk).lt
  exact Nat.lt_trans (by decide) h

end

section
variable {X : Cx} {pins : List (Addr × Obj)} {σ : St} {H : Hp} {s : Shared} {a : Addr} {kvs : List (Key × V)} {k : Key} {u : Value} {A : Around} {E : Value → Shared → Prop}
end


section
variable {X : Cx} {o i e value : Expr} {pos pos' tpos : Pos} {td ty tv : TE}
end


section
variable {X : Cx} {pos : Pos}
end

section
variable {X : Cx} {pins : List (Addr × Obj)} {σ : St} {H : Hp} {s : Shared} {a : Addr} {y d : V} {u r : Value} {o : Option V} {A : Around} {E : Value → Shared → Prop}
end

section
variable {X : Cx} {o e f : Expr} {apos cpos : Pos} {td ty tx : TE}
end

section
variable {X : Cx} {pins : List (Addr × Obj)} {σ : St} {H : Hp} {s : Shared} {a : Addr} {kvs : List (Key × V)} {A : Around} {E : Value → Shared → Prop}
end


section
variable {X : Cx} {pins : List (Addr × Obj)} {σ : St} {H : Hp} {s : Shared} {a : Addr} {y : V} {u : Value} {A : Around} {E : Value → Shared → Prop}
end
end L2




namespace L2
variable {nk : Nat}
open PySem PySem.Spec PyProof.Rows

section
variable {X : Cx}
end

section
variable {κ : Type} [DecidableEq κ]
end
end L2
set_option Elab.async false
set_option linter.all false
set_option maxRecDepth 100000
set_option maxHeartbeats 4000000
namespace L2
open PySem PySem.Spec PyProof.Rows
/-- weaken the end where nothing is thrown, knowing that the counter does not go down -/
theorem mono_u {α : Type} {t : Sem α} {Q Q' : α → Shared → Prop} {M : Model} {A : Around} {E : Value → Shared → Prop} {s : Shared} (h : wpAny M A t Q (fun _ _ => False) s) (hQ : ∀ a s', s.toks ≤ s'.toks → Q a s' → Q' a s') : wpAny M A t Q' E s :=
  up (wpAny_mono h (fun a s' q k => hQ a s' k q) fun _ _ z => z.elim)

/-- the block's context: nm its names, cl the cells that it takes over, C its own map, fp the iterator's records -/
abbrev cxComp (X : Cx) (nm : List Str) (scope : Scope) (cl : List (Str × Addr)) (C : Addr) (s0 : Shared) (H0 : Hp) (fp : List Addr) : Cx :=
  { X with N := nm, s₀ := s0, H₀ := H0, env := compEnvC scope cl C X.env, outer := X.stack, stack := X.stack, ex := fp, fn := fun _ => false, pn := [], xe := fun _ _ => False }

def PTs (X : Cx) (ifs : List Expr) (t : TT) : Prop :=
  ∀ (pins : List (Addr × Obj)) (s : Shared) (σ : St) (H : Hp) (Q : Bool → Hp → Prop), Inv X pins σ H s → t σ H Q →
    wpAny (model X.prog X.w) X.A (forIn ifs true fun c r => if r = true then do let ok ← isTrue c X.env (eval c X.env); pure (ForInStep.yield ok) else pure (ForInStep.yield r)) (TP X pins σ Q) X.xe s
def tYes : TT := fun _ H Q => Q true H
theorem pts_nil {X : Cx} : PTs X [] tYes := fun _ _ _ H _ I h => wpAny_tests_nil ⟨H, I, h⟩
theorem pts_one {X : Cx} {c : Expr} {t : TT} (hc : PT X c t) : PTs X [c] t := fun pins s σ H Q I h => wpAny_tests_one (hc pins s σ H Q I h)

/-- the captured slots -/
def capSt (cap : List (Option Nat)) (σ : St) : St := cap.map fun o => o.bind fun j => (σ[j]?).join
def tComp (cap : List (Option Nat)) (wi : TI) (g : TG) (tc : TT) (te : TE) : TE := fun σ H Q => wi σ H fun J H1 => ∃ W : Nat → Nat → List V → Hp → Prop, (∃ m, W 0 m [] H1) ∧ ∀ i m ys H2, W i m ys H2 →
  (J.stop i H2 ∧ ys.length ≤ sizeLine ∧ ∀ p, H2 p = none → Q (.ref p) (upd H2 p (.lst ys))) ∨
  (J.go i H2 ∧ ∀ x H3, J.yld i H2 x H3 → g x (capSt cap σ) H3 fun σ2 H4 => tc σ2 H4 fun b H5 => if b = true then te σ2 H5 fun y H6 => ys.length < sizeLine ∧ ∃ m', m' < m ∧ W (i + 1) m' (ys ++ [y]) H6 else ∃ m', m' < m ∧ W (i + 1) m' ys H5)

theorem Un.cellK {fs ex : List Addr} {H H' : Hp} {h h' : Heap} (u : Un fs ex H H' h h') {c : Addr} {v : Option Value} (x : h.IsCell c v) (n : H c = none) (he : c ∉ ex) : h'.IsCell c v := by
  obtain ⟨o, ho, hd⟩ := x
  obtain ⟨sl, q⟩ := u.any ho n he
  exact ⟨_, q, hd⟩

/-- a captured name: a cell of the def's, handed on -/
structure CapOk (X : Cx) (scope : Scope) (cl : List (Str × Addr)) (x : Str) : Prop where
  vis : Vis X.env.scope x
  nl : X.env.scope.names.lookup x ≠ some .local
  cl : cl.lookup x = X.env.cells.lookup x
  kd : (relabel scope X.env).names.lookup x = some .cell ∨ (relabel scope X.env).names.lookup x = some .free

theorem cellsFrom_mem : ∀ (names : List (Str × NameKind)) (n : Nat) (acc : List (Str × Addr)) {y : Str} {c : Addr}, (y, c) ∈ cellsFrom n names acc → (y, NameKind.cell) ∈ names ∨ (y, c) ∈ acc
  | [], _, _, _, _, h => .inr h
  | (x, k) :: r, n, acc, y, c, h => by
    have h : (y, c) ∈ (if k == .cell then cellsFrom (n + 1) r ((x, n) :: acc) else cellsFrom n r acc) := h
    split at h
    · rename_i hk
      rcases cellsFrom_mem r _ _ h with q | q
      · exact .inl (List.mem_cons_of_mem _ q)
      · rcases List.mem_cons.mp q with e | q
        · cases e
          exact .inl (by rw [eq_of_beq hk]; exact List.mem_cons_self)
        · exact .inr q
    · rcases cellsFrom_mem r _ _ h with q | q
      · exact .inl (List.mem_cons_of_mem _ q)
      · exact .inr q
theorem lookup_mem' {β : Type} : ∀ {l : List (Str × β)} {x : Str} {b : β}, l.lookup x = some b → (x, b) ∈ l
  | [], _, _, h => by simp at h
  | (y, c) :: r, x, b, h => by
    rw [List.lookup_cons] at h
    cases hx : x == y with
    | true => rw [hx] at h; have := eq_of_beq hx; subst this; cases h; exact List.mem_cons_self
    | false => rw [hx] at h; exact List.mem_cons_of_mem _ (lookup_mem' h)
theorem cellsFrom_app : ∀ (names : List (Str × NameKind)) (n : Nat) (acc : List (Str × Addr)), cellsFrom n names acc = cellsFrom n names [] ++ acc
  | [], _, _ => rfl
  | (x, k) :: r, n, acc => by
    show (if k == .cell then cellsFrom (n + 1) r ((x, n) :: acc) else cellsFrom n r acc) = (if k == .cell then cellsFrom (n + 1) r [(x, n)] else cellsFrom n r []) ++ acc
    split
    · rw [cellsFrom_app r (n + 1) ((x, n) :: acc), cellsFrom_app r (n + 1) [(x, n)], List.append_assoc]; rfl
    · exact cellsFrom_app r n acc
abbrev cxCompO (X : Cx) (nm : List Str) (scope : Scope) (cl : List (Str × Addr)) (C : Addr) (s0 : Shared) (H0 : Hp) (fp : List Addr) : Cx :=
  { cxComp X nm scope cl C s0 H0 fp with fn := fun y => scope.names.lookup y == some .cell }
theorem newEnvB {M : Model} {A : Around} {E : Value → Shared → Prop} {s : Shared} {scope : Scope} {globals : Addr} {cl : List (Str × Addr)} {qual : Str} {env : Env} {Q : Env → Shared → Prop}
    (hQ : ∀ h' : Heap, h'.Ns s.heap.objs.size (fun x => ([] : List (Str × Value)).reverse.lookup x) → (∀ b o, s.heap.get? b = some o → h'.get? b = some o) → CellsOk h' (s.heap.objs.size + 1) (cellsFrom (s.heap.objs.size + 1) scope.names []) →
      Q (newEnv scope s.heap.objs.size globals (cellsFrom (s.heap.objs.size + 1) scope.names [] ++ cl) qual none .none (some env) builtinsNs) { s with heap := h' }) :
    wpAny M A (newFunctionEnv scope globals cl [] qual none .none (some env)) Q E s := by
  simp only [newFunctionEnv, Option.isSome_some, if_true]
  refine wpAny_bind (wpAny_alloc ?_)
  refine wpAny_bind (wpAny_layCells _ (fun name kind cells => by cases hkc : kind == NameKind.cell <;> simp [hkc]) _ _ _ _ ?_)
  have ok := cellsFrom_ok scope.names (s.heap.push { cls := .type "dict", data := .dict #[] }) (s.heap.objs.size + 1) [] ⟨fun _ _ hm => (nomatch hm), List.Pairwise.nil⟩ (by rw [Heap.size_push]; exact Nat.le_refl _)
  rw [Heap.size_push] at ok
  rw [show ({ s with heap := s.heap.push { cls := .type "dict", data := .dict #[] } } : Shared).heap.objs.size = s.heap.objs.size + 1 from Heap.size_push .., cellsFrom_app _ _ cl]
  exact wpAny_bind (wpAny_pure (wpAny_pure (hQ _ ((Heap.Ns.new s.heap (.type "dict")).keeps (pushCells_keeps _ _)) (fun b o e => pushCells_keeps _ _ b o (Heap.get?_push_of_some _ e)) ok)))
section
variable {X : Cx} {elt tg iter : Expr} {ifs : List Expr} {scope : Scope} {pos : Pos} {nm : List Str} {cl : List (Str × Addr)} {cap : List (Option Nat)} {wi : TI} {g : TG} {tc : TT} {te : TE}

theorem append_plain {prog : Program} {w : World} {A : Around} {E : Value → Shared → Prop} {s : Shared} {l : Addr} {its : List Value} {n : Nat} {u : Value} {Q : Value → Shared → Prop}
    (e : s.heap.get? l = some { cls := .type "list", data := .seq its.toArray n }) (hz : its.length < sizeLine)
    (h : ∀ (h' : Heap) (n' tk : Nat), h'.get? l = some { cls := .type "list", data := .seq (its ++ [u]).toArray n' } → (∀ b o, b ≠ l → s.heap.get? b = some o → h'.get? b = some o) → Q .none { s with heap := h', toks := tk }) :
    wpAny (model prog w) A (call (.builtin "list.append") [.ref l, u]) Q E s := by
  refine call_meets F.slot_list_append ⟨_, e, rfl⟩ F.entry_list_append (F.args_list_append_2 _ _) (PySem.list_append l its.toArray n u (by rw [List.size_toArray]; omega)) ⟨e, ?_⟩
  have q := PySem.IsL.update e (fun a => a.push u)
  have q2 : (s.heap.update l (Obj.mapSeq fun x => x.push u)).get? l = some { cls := .type "list", data := .seq (its ++ [u]).toArray (if ((its.toArray.push u).size == its.toArray.size) = true then n else n + 1) } := by
    rw [show (s.heap.update l (Obj.mapSeq fun x => x.push u)).get? l = _ from q]; simp
  exact h _ _ s.toks q2 fun b o hb ho => (Heap.get?_update_other s.heap (Obj.mapSeq _) (Ne.symm hb)).trans ho

/-- the block's map, an object of its own -/
structure BlkAt (X : Cx) (pins : List (Addr × Obj)) (H : Hp) (s : Shared) (C : Addr) (m : Str → Option Value) : Prop where
  ns : s.heap.Ns C m
  fr : H C = none
  nl : C ≠ X.env.locals
  nf : C ∉ X.fs
  hi : X.s₀.heap.objs.size ≤ C
  nc : ∀ x c, X.env.cells.lookup x = some c → c ≠ C
  np : ∀ p ∈ X.pn ++ pins, p.1 ≠ C
theorem BlkAt.off {pins : List (Addr × Obj)} {σ : St} {H : Hp} {s : Shared} {C : Addr} {m : Str → Option Value} {h' : Heap} (B : BlkAt X pins H s C m) (I : Inv X pins σ H s) (hs : Heap.SameBut C s.heap h') : Inv X pins σ H { s with heap := h' } := I.turned (t' := s.toks) (it := C) (fun b o hb e => hs.extBut b o hb e) B.fr B.nl (.inr B.hi) B.nc B.np
theorem recapO {pins pins2 : List (Addr × Obj)} {σ σ2 : St} {H1 H : Hp} {s2 s : Shared} {C : Addr} {fp : List Addr}
    (hcap : ∀ (i j : Nat), cap[i]? = some (some j) → ∃ x, nm[i]? = some x ∧ X.N[j]? = some x ∧ CapOk X scope cl x) (hlen : cap.length = nm.length)
    (I2 : Inv X pins σ H1 s2) (hfp : ∀ b ∈ fp, ∀ x c, X.env.cells.lookup x = some c → c ≠ b)
    (I : Inv (cxCompO X nm scope cl C s2 H1 fp) pins2 σ2 H s) : Inv (cxCompO X nm scope cl C s2 H1 fp) pins2 (capSt cap σ) H s := by
  refine ⟨I.ok, I.os, I.bare, I.base, ?_, I.cell, I.free, I.freeC, I.pin, I.hok, by show (capSt cap σ).length = nm.length; unfold capSt; rw [List.length_map]; exact hlen, I.pos, I.tk⟩
  obtain ⟨m, hn, _⟩ := I.loc
  refine ⟨m, hn, fun i x v e1 e2 e3 => ?_⟩
  unfold capSt at e2
  rw [List.getElem?_map] at e2
  cases hc : cap[i]? with
  | none => rw [hc] at e2; cases e2
  | some oj =>
    cases oj with
    | none => rw [hc] at e2; cases e2
    | some j =>
      rw [hc] at e2
      have e2' : (σ[j]?).join = some v := by simpa using e2
      have e2 : σ[j]? = some (some v) := by
        cases hs : σ[j]? with
        | none => rw [hs] at e2'; cases e2'
        | some ov => rw [hs] at e2'; simp at e2'; rw [e2']
      obtain ⟨x', f1, f2, k⟩ := hcap i j hc
      have hx : x' = x := by
        have z : nm[i]? = some x := e1
        rw [f1] at z; exact Option.some.inj z
      subst hx
      obtain ⟨m2, _, hl2⟩ := I2.loc
      obtain ⟨u, r, l⟩ := hl2 j x' v f2 e2 k.vis
      refine ⟨u, r.up I.tk, ?_⟩
      rcases l with ⟨kl, _⟩ | ⟨_, c, hcc, hcell⟩
      · exact absurd kl k.nl
      · refine .inr ⟨k.kd, c, by rw [← hcc]; exact k.cl, ?_⟩
        exact I.base.cellK hcell (I2.freeC _ _ hcc) fun z => hfp c z _ _ hcc rfl

theorem comp_coreO {pins : List (Addr × Obj)} {σ : St} {H : Hp} {s : Shared} {use : Option (Value → Sem Unit)} {Qk : VK} {Qv : Value → Shared → Prop} (hcalm : X.calm = true) (hclos : closureFor scope X.env = pure cl) (hcl : ∀ x c, cl.lookup x = some c → X.env.cells.lookup x = some c)
    (hkind : scope.kind = .function) (hnames : ∀ x ∈ scope.names, x.2 = .local → scope.names.lookup x.1 = some .local) (hsep : ∀ y ∈ scope.names, y.2 = .cell → cl.lookup y.1 = none)
    (hhas : ∀ x, scope.names.lookup x ≠ some .cell → ((relabel scope X.env).names.lookup x = some .cell ∨ (relabel scope X.env).names.lookup x = some .free) → ∃ c, cl.lookup x = some c)
    (hcap : ∀ (i j : Nat), cap[i]? = some (some j) → ∃ x, nm[i]? = some x ∧ X.N[j]? = some x ∧ CapOk X scope cl x ∧ (x, NameKind.cell) ∉ scope.names) (hlen : cap.length = nm.length)
    (hi : PI X tg iter wi) (hg : ∀ k C s0 H0 fp, PG (cxCompO X nm scope (cellsFrom k scope.names [] ++ cl) C s0 H0 fp) tg g) (ht : ∀ k C s0 H0 fp, PTs (cxCompO X nm scope (cellsFrom k scope.names [] ++ cl) C s0 H0 fp) ifs tc)
    (he : ∀ k C s0 H0 fp, PE (cxCompO X nm scope (cellsFrom k scope.names [] ++ cl) C s0 H0 fp) elt te) (hs : ∀ x, foldedSetIterable iter X.env x = pure x)
    (I : Inv X pins σ H s) (h : tComp cap wi g tc te σ H Qk) (fin : ∀ (s4 : Shared) (C D : Addr) (m4 : Str → Option Value) (Hn : Hp), Inv X pins σ Hn s4 → BlkAt X pins Hn s4 C m4 → Qk (.ref D) Hn → compPost (model X.prog X.w) X.A X.xe use Qv (.ref D) C (.ok .next) s4) :
    wpAny (model X.prog X.w) X.A (comprehension (.ListComp elt [⟨tg, iter, ifs, 0⟩] scope pos) scope X.env (firstIterPos [⟨tg, iter, ifs, 0⟩] pos) (newList []) (firstAsync [⟨tg, iter, ifs, 0⟩]) (firstIter [⟨tg, iter, ifs, 0⟩] X.env) use) Qv X.xe s := by
  refine wpAny_comprehension_free (use := use) rfl hs hclos hkind hnames (thn (hi pins s σ H _ I h) fun v s1 h1 => thn h1 fun itv s2 h2 => ?_)
  obtain ⟨it, fp, tn, J, H1, e, I2, T, st2, f2, W, ⟨m0, w0⟩, turn⟩ := h2
  subst e
  have hfpn : ∀ b ∈ fp, b < s2.heap.objs.size := fun b hb => let ⟨o, ho, _⟩ := T.obj _ _ st2 b hb; Heap.lt_size ho
  have hfpc : ∀ b ∈ fp, ∀ x c, X.env.cells.lookup x = some c → c ≠ b := fun b hb => (f2 b hb).2.2.2.2.1
  -- the accumulator and the block's map
  refine wpAny_newObj_type (newEnvB (fun h₁ hns₁ hsb₁ cok => ?_))
  dsimp only at hns₁ hsb₁ cok ⊢
  generalize hH2 : s2.heap.push { cls := .type "list", dict := none, data := .seq ([] : List Value).toArray } = G2 at hns₁ hsb₁ cok ⊢
  have hC : G2.objs.size = s2.heap.objs.size + 1 := by rw [← hH2, Heap.size_push]
  have hDC : s2.heap.objs.size ≠ G2.objs.size := by rw [hC]; exact Nat.ne_of_lt (Nat.lt_succ_self _)
  have old : ∀ b o, s2.heap.get? b = some o → h₁.get? b = some o := fun b o e => hsb₁ b o (hH2 ▸ Heap.get?_push_of_some _ e)
  have hacc : h₁.get? s2.heap.objs.size = some { cls := .type "list", data := .seq ([] : List Value).toArray } := hsb₁ _ _ (hH2 ▸ Heap.get?_push_size _ rfl)
  have both : ∀ y c, (cellsFrom (G2.objs.size + 1) scope.names [] ++ cl).lookup y = some c → (cellsFrom (G2.objs.size + 1) scope.names []).lookup y = some c ∨ cl.lookup y = some c := fun y c e => by
    rw [List.lookup_append] at e
    cases h : (cellsFrom (G2.objs.size + 1) scope.names []).lookup y with
    | none => rw [h] at e; exact .inr e
    | some b => rw [h] at e; exact .inl e
  have ownhi : ∀ y c, (cellsFrom (G2.objs.size + 1) scope.names []).lookup y = some c → h₁.IsCell c none ∧ G2.objs.size + 1 ≤ c := fun y c e => cok.empty y c (PySem.mem_of_lookup e)
  have cllow : ∀ y c, cl.lookup y = some c → c < s2.heap.objs.size := fun y c e => by obtain ⟨v, hv⟩ := I2.cell y c (hcl _ _ e); exact hv.lt
  have hcap0 := hcap
  have hcap : ∀ (i j : Nat), cap[i]? = some (some j) → ∃ x, nm[i]? = some x ∧ X.N[j]? = some x ∧ CapOk X scope (cellsFrom (G2.objs.size + 1) scope.names [] ++ cl) x := fun i j e => by
    obtain ⟨x, q1, q2, k, q3⟩ := hcap0 i j e
    refine ⟨x, q1, q2, k.vis, k.nl, ?_, k.kd⟩
    rw [List.lookup_append]
    cases h : (cellsFrom (G2.objs.size + 1) scope.names []).lookup x with
    | none => exact k.cl
    | some c =>
      rcases cellsFrom_mem _ _ _ (PySem.mem_of_lookup h) with z | z
      · exact absurd z q3
      · cases z
  -- the block's invariant at its start
  have okB : (cxCompO X nm scope (cellsFrom (G2.objs.size + 1) scope.names [] ++ cl) G2.objs.size s2 H1 fp).Ok := by
    refine ⟨I2.ok.mod, hkind, I2.ok.glob, I2.ok.blt, by show s2.heap.objs.size ≤ G2.objs.size; omega, fun x y c h1 h2 => ?_, fun x hx => ?_, fun x c h0 hc => ?_, fun hc => I2.ok.hd hcalm, I2.ok.frames, .inl rfl, ?_, ?_, ?_, ?_, ?_, ?_, ?_⟩
    · rcases both x c h1 with q1 | q1 <;> rcases both y c h2 with q2 | q2
      · exact name_of_addr cok.apart (PySem.mem_of_lookup q1) (PySem.mem_of_lookup q2)
      · exact absurd (cllow y c q2) (Nat.not_lt.mpr (Nat.le_trans (by omega) (ownhi x c q1).2))
      · exact absurd (cllow x c q1) (Nat.not_lt.mpr (Nat.le_trans (by omega) (ownhi y c q2).2))
      · exact I2.ok.inj x y c (hcl _ _ q1) (hcl _ _ q2)
    · show ∃ c, (cellsFrom (G2.objs.size + 1) scope.names [] ++ cl).lookup x = some c
      rw [List.lookup_append]
      by_cases hq : scope.names.lookup x = some .cell
      · obtain ⟨c, e⟩ := cell_has (n := G2.objs.size + 1) hq
        exact ⟨c, by rw [e]; rfl⟩
      · obtain ⟨c, e⟩ := hhas x hq hx
        cases h : (cellsFrom (G2.objs.size + 1) scope.names []).lookup x with
        | none => exact ⟨c, e⟩
        | some b => exact ⟨b, rfl⟩
    · have hq : scope.names.lookup x = some .cell := by simpa using h0
      obtain ⟨b, e⟩ := cell_has (n := G2.objs.size + 1) hq
      have hc : (cellsFrom (G2.objs.size + 1) scope.names [] ++ cl).lookup x = some c := hc
      rw [List.lookup_append, e] at hc
      cases hc
      have := (ownhi x _ e).2
      show s2.heap.objs.size ≤ _
      omega
    · intro b hb
      exact ⟨Nat.ne_of_lt (Nat.lt_of_lt_of_le (hfpn b hb) (by show _ ≤ G2.objs.size; omega)), fun x c hx => (both x c hx).elim (fun q => Nat.ne_of_gt (Nat.lt_of_lt_of_le (hfpn b hb) (Nat.le_trans (by omega) (ownhi x c q).2))) fun q => hfpc b hb x c (hcl _ _ q)⟩
    · exact fun b o hb => I2.bs b o hb
    · exact Nat.le_trans I2.ok.bsz I2.sz
    · intro b o hb z
      rcases (f2 b z).2.2.2.1 with q | q
      · exact I2.ok.noex b o hb q
      · exact absurd (Heap.lt_size (I2.ok.bs b o hb).1) (Nat.not_lt.mpr q)
    · intro b hb z
      rcases List.mem_cons.mp (I2.stkSub b z) with q | q
      · exact (f2 b hb).2.1 q
      · exact (f2 b hb).2.2.1 q
    · exact I2.stack
    · exact I2.stkFree
  have I4 : Inv (cxCompO X nm scope (cellsFrom (G2.objs.size + 1) scope.names [] ++ cl) G2.objs.size s2 H1 fp) [] (capSt cap σ) H1 { s2 with heap := h₁ } := by
    refine recapO hcap hlen I2 hfpc (σ2 := List.replicate nm.length none) ⟨okB, rfl, I2.bare, Un.kept old, ⟨_, hns₁, fun i x v _ e2 => ?_⟩, fun x c hx => ?_, ?_, fun x c hx => (both x c hx).elim (fun q => I2.hok.fresh (by have := (ownhi x c q).2; omega)) fun q => I2.freeC x c (hcl _ _ q), fun p hp => absurd hp (by simp), I2.hok.kept old, by simp, I2.pos, Nat.le_refl _⟩
    · rw [List.getElem?_replicate] at e2; split at e2 <;> cases e2
    · rcases both x c hx with q | q
      · exact ⟨none, (ownhi x c q).1⟩
      · obtain ⟨v, hv⟩ := I2.cell x c (hcl _ _ q)
        exact ⟨v, hv.keeps old⟩
    · exact I2.hok.fresh (by show _ ≤ G2.objs.size; omega)
  have hsz0 : ∀ {Hx : Hp} {sx : Shared} {px : List (Addr × Obj)} {σx : St}, Inv (cxCompO X nm scope (cellsFrom (G2.objs.size + 1) scope.names [] ++ cl) G2.objs.size s2 H1 fp) px σx Hx sx → Hx s2.heap.objs.size = none → ∀ {oa : Obj}, sx.heap.get? s2.heap.objs.size = some oa → (∀ v, oa.data ≠ .cell v) →
      Inv (cxCompO X nm scope (cellsFrom (G2.objs.size + 1) scope.names [] ++ cl) G2.objs.size s2 H1 fp) [(s2.heap.objs.size, oa)] σx Hx sx := fun {Hx sx px σx} Ix hn {oa} ho hd => Ix.pins_of fun p hp => by
    have e : p = (s2.heap.objs.size, oa) := by simpa using hp
    subst e
    exact ⟨ho, hn, hDC, fun z => by
      obtain ⟨_, o, q, _⟩ := I2.stack.mem z
      exact absurd (Heap.lt_size q) (Nat.lt_irrefl _), hd⟩
  have hfpB : ∀ {Hx : Hp} {oa : Obj}, (∀ b ∈ fp, Hx b = none) → ∀ b ∈ fp, FpOk (cxCompO X nm scope (cellsFrom (G2.objs.size + 1) scope.names [] ++ cl) G2.objs.size s2 H1 fp) [(s2.heap.objs.size, oa)] Hx b := fun {Hx oa} hn b hb =>
    ⟨hn b hb, (okB.exf b hb).1, okB.exfs b hb, .inl hb, (okB.exf b hb).2, fun p hp => by
      have e : p = (s2.heap.objs.size, oa) := by simpa using hp
      subst e
      exact Nat.ne_of_gt (hfpn b hb)⟩
  have hcalmB : (cxCompO X nm scope (cellsFrom (G2.objs.size + 1) scope.names [] ++ cl) G2.objs.size s2 H1 fp).calm = true := hcalm
  have loop : ∀ sx : Shared, sx = { s2 with heap := h₁ } →
      codeAny (model X.prog X.w) X.A (.compLoop (.ListComp elt [⟨tg, iter, ifs, 0⟩] scope pos) 0 (.ref it) (.ref s2.heap.objs.size) (compEnvC scope (cellsFrom (G2.objs.size + 1) scope.names [] ++ cl) G2.objs.size X.env))
        (compPost (model X.prog X.w) X.A X.xe use Qv (.ref s2.heap.objs.size) G2.objs.size) sx := by
    rintro sx rfl
    refine codeAny_loop rfl (fun n s' => ∃ i ys H', Inv (cxCompO X nm scope (cellsFrom (G2.objs.size + 1) scope.names [] ++ cl) G2.objs.size s2 H1 fp) [] (capSt cap σ) H' s' ∧ tn i s'.heap ∧ (∀ b ∈ fp, H' b = none) ∧ H' s2.heap.objs.size = none ∧
      (∃ its k, Vals s'.toks ys its ∧ s'.heap.get? s2.heap.objs.size = some { cls := .type "list", data := .seq its.toArray k }) ∧ W i n ys H') ?_ m0
      ⟨0, [], H1, I4, T.keep _ _ _ st2 (fun b _ o e => old b o e), fun b hb => (f2 b hb).1, I2.fresh, ⟨[], 0, .nil, hacc⟩, w0⟩
    rintro n s3 ⟨i, ys, H3, I3, st3, fr3, na3, ⟨its, ka, rv, ea⟩, w3⟩
    show wpAny _ X.A ((compTurn (.ListComp elt [⟨tg, iter, ifs, 0⟩] scope pos) 0 (.ref it) (.ref s2.heap.objs.size) (compEnvC scope (cellsFrom (G2.objs.size + 1) scope.names [] ++ cl) G2.objs.size X.env)).onRaise (fun x => do noteFrame x (compEnvC scope (cellsFrom (G2.objs.size + 1) scope.names [] ++ cl) G2.objs.size X.env); theTreesLotGoes x)) _ _ s3
    refine wpAny_noted ?_
    rw [compTurn_list]
    refine wpAny_bind (wpAny_standAt ?_)
    have I3p := hsz0 I3 na3 ea (fun v z => by cases z)
    rcases turn i n ys H3 w3 with ⟨stop, hz, qn⟩ | ⟨go, step⟩
    · refine wpAny_bind (mono_u (T.done (cxCompO X nm scope (cellsFrom (G2.objs.size + 1) scope.names [] ++ cl) G2.objs.size s2 H1 fp) rfl rfl rfl hcalmB i _ s3 _ H3 (fun _ _ => False) I3p (hfpB fr3) st3 stop) (fun r s4 kt4 hr => ?_))
      obtain ⟨hr, I4'⟩ := hr
      subst hr
      refine wpAny_pure ?_
      obtain ⟨m4, hn4, _⟩ := id I4'.loc
      have pa := I4'.pin (s2.heap.objs.size, { cls := .type "list", data := .seq its.toArray ka }) (by simp)
      have ne : ∀ b o, s2.heap.get? b = some o → b ≠ s2.heap.objs.size ∧ b ≠ G2.objs.size := fun b o e => ⟨Nat.ne_of_lt (Heap.lt_size e), Nat.ne_of_lt (by rw [hC]; exact Nat.lt_succ_of_lt (Heap.lt_size e))⟩
      have I5 : Inv X pins σ (upd H3 s2.heap.objs.size (.lst ys)) s4 := by
        refine I2.call' (ch := fp) I4'.os ⟨fun b o e n hb hx => ?_, fun b o e n hb hx => ?_, fun b o e n hx => ?_, fun b o e hx => ?_, fun b xs e => ?_, fun b o u e => ?_, fun b ps e => ?_⟩ ?_ I4'.bare (fun b hb => ?_) I4'.tk
        · exact I4'.base.keep b o e n hb hx
        · exact I4'.base.slot b o e n hb hx
        · rw [upd_ne (ne b o e).1]; exact I4'.base.free b o e n hx
        · exact I4'.base.there b o e hx
        · have q := I4'.base.tups b xs e
          rw [upd_ne (ne_of_none q na3)]; exact q
        · have q := I4'.base.frzs b o u e
          rw [upd_ne (ne_of_none q na3)]; exact q
        · obtain ⟨mr, q⟩ := I4'.base.tbls b ps e
          exact ⟨mr, by rw [upd_ne (ne_of_none q na3)]; exact q⟩
        · intro b o e
          by_cases hb : b = s2.heap.objs.size
          · subst hb
            rw [upd_same] at e; cases e
            exact ⟨hz, its, ka, rv.up kt4, pa.1⟩
          · rw [upd_ne hb] at e
            exact (I4'.hok b o e).stay (fun c u hc q => q) (fun c q => by rw [upd_ne (ne_of_none q na3)]; exact q) fun c xs q => by rw [upd_ne (ne_of_none q na3)]; exact q
        · obtain ⟨_, g1, _, g3, g4, g5⟩ := f2 b hb
          exact ⟨g3, g1, g4, g5⟩
      have lC : s2.heap.objs.size ≤ G2.objs.size := by rw [hC]; exact Nat.le_succ _
      exact fin s4 G2.objs.size _ m4 _ I5 ⟨hn4, by rw [upd_ne (Ne.symm hDC)]; exact I4'.free, Nat.ne_of_gt (Nat.lt_of_lt_of_le I2.lt lC), I2.nofs lC, Nat.le_trans I2.sz lC, fun x c hx z => (by
        obtain ⟨v, o, ho, _⟩ := I2.cell x c hx
        exact absurd (Heap.lt_size ho) (by rw [z]; exact Nat.not_lt.mpr lC)), fun p hp z => (by
        have := (I2.pin p hp).1
        exact absurd (Heap.lt_size this) (by rw [z]; exact Nat.not_lt.mpr lC))⟩ (qn _ na3)
    · refine wpAny_bind (mono_u (T.item (cxCompO X nm scope (cellsFrom (G2.objs.size + 1) scope.names [] ++ cl) G2.objs.size s2 H1 fp) rfl rfl rfl hcalmB i _ s3 _ H3 (fun _ _ => False) I3p (hfpB fr3) st3 go) (fun r s4 kt4 hr => ?_))
      obtain ⟨u, hr, h4⟩ := hr
      subst hr
      dsimp only
      refine wpAny_bind (mono_u h4 (fun _ s5 kt5 h5 => ?_))
      obtain ⟨x, H5, I5, r5, y5, st5, fr5⟩ := h5
      have I5' := I5.pinned (hfpB fr5) (T.obj _ _ st5)
      refine wpAny_bind (mono_u (hg _ _ _ _ _ _ s5 _ H5 x u _ I5' r5 (step x H5 y5)) (fun _ s6 kt6 h6 => ?_))
      obtain ⟨σ6, H6, I6, q6⟩ := h6
      refine wpAny_bind (mono_u (ht _ _ _ _ _ _ s6 σ6 H6 _ I6 q6) (fun ok s7 kt7 h7 => ?_))
      obtain ⟨H7, I7, q7⟩ := h7
      have back : ∀ {H8 : Hp} {s8 : Shared} {ys' : List V} {its' : List Value} {k' : Nat}, Inv (cxCompO X nm scope (cellsFrom (G2.objs.size + 1) scope.names [] ++ cl) G2.objs.size s2 H1 fp) [] σ6 H8 s8 → (∀ b ∈ fp, ∀ o, s5.heap.get? b = some o → s8.heap.get? b = some o) → (∀ b ∈ fp, H8 b = none) → H8 s2.heap.objs.size = none →
          Vals s8.toks ys' its' → s8.heap.get? s2.heap.objs.size = some { cls := .type "list", data := .seq its'.toArray k' } → (∃ m', m' < n ∧ W (i + 1) m' ys' H8) →
          ∃ m, m < n ∧ ∃ i ys H', Inv (cxCompO X nm scope (cellsFrom (G2.objs.size + 1) scope.names [] ++ cl) G2.objs.size s2 H1 fp) [] (capSt cap σ) H' s8 ∧ tn i s8.heap ∧ (∀ b ∈ fp, H' b = none) ∧ H' s2.heap.objs.size = none ∧
            (∃ its k, Vals s8.toks ys its ∧ s8.heap.get? s2.heap.objs.size = some { cls := .type "list", data := .seq its.toArray k }) ∧ W i m ys H' :=
        fun {H8 s8 ys' its' k'} I8 kf f8 n8 rv8 e8 ⟨m', hm, w8⟩ => ⟨m', hm, i + 1, ys', H8, recapO hcap hlen I2 hfpc I8, T.keep _ _ _ st5 kf, f8, n8, ⟨its', k', rv8, e8⟩, w8⟩
      cases ok with
      | false =>
        refine wpAny_pure ⟨rfl, ?_⟩
        have q7' : ∃ m', m' < n ∧ W (i + 1) m' ys H7 := by simpa using q7
        have pa := I7.pin (s2.heap.objs.size, { cls := .type "list", data := .seq its.toArray ka }) (by simp)
        refine back (I7.pins_of fun p hp => absurd hp (by simp)) (fun b hb o e => ?_) (fun b hb => ?_) pa.2.1 (rv.up (by omega)) pa.1 q7'
        · exact (I7.pin (b, o) (List.mem_append_right _ (List.mem_append_right _ (mem_pinsAt hb e)))).1
        · obtain ⟨o, e, d⟩ := T.obj _ _ st5 b hb
          exact (I7.pin (b, o) (List.mem_append_right _ (List.mem_append_right _ (mem_pinsAt hb e)))).2.1
      | true =>
        rw [if_pos rfl] at q7
        refine wpAny_bind (wpAny_bind (mono_u (he _ _ _ _ _ _ s7 σ6 H7 _ I7 q7) (fun xv s8 kt8 h8 => ?_)))
        obtain ⟨y, H8, I8, r8, hzy, q8⟩ := h8
        have pa := I8.pin (s2.heap.objs.size, { cls := .type "list", data := .seq its.toArray ka }) (by simp)
        refine wpAny_bind (up (append_plain pa.1 (by rw [← rv.length]; exact hzy) fun h' k' tk e9 sb hk => ?_))
        refine wpAny_pure (wpAny_pure ⟨rfl, ?_⟩)
        have I9 : Inv (cxCompO X nm scope (cellsFrom (G2.objs.size + 1) scope.names [] ++ cl) G2.objs.size s2 H1 fp) [] σ6 H8 { s8 with heap := h', toks := tk } :=
          (Inv.pins_of (pins' := []) I8 fun p hp => absurd hp (by simp)).turned (it := s2.heap.objs.size) (fun b o hb e => sb b o hb e) pa.2.1 hDC (.inr (Nat.le_refl _)) (fun x c hx z => by
            rcases both x c hx with q | q
            · exact Nat.not_lt.mpr (ownhi x c q).2 (by rw [z]; omega)
            · exact Nat.lt_irrefl _ (by have := cllow x c q; rw [z] at this; exact this)) (fun p hp => absurd hp (by simp))
        refine back I9 (fun b hb o e => ?_) (fun b hb => ?_) pa.2.1 ((rv.up (by omega)).append (.cons (r8.up hk) .nil)) e9 q8
        · exact sb b o (Nat.ne_of_lt (hfpn b hb)) (I8.pin (b, o) (List.mem_append_right _ (List.mem_append_right _ (mem_pinsAt hb e)))).1
        · obtain ⟨o, e, d⟩ := T.obj _ _ st5 b hb
          exact (I8.pin (b, o) (List.mem_append_right _ (List.mem_append_right _ (mem_pinsAt hb e)))).2.1
  exact codeAny_compStart_list (loop _ rfl) (T.self _ _ _ _ _ (T.keep _ _ _ st2 fun b _ o e => old b o e) (loop _ rfl))
theorem cellsFrom_no : ∀ (names : List (Str × NameKind)) (n : Nat), (∀ y ∈ names, y.2 ≠ .cell) → cellsFrom n names [] = []
  | [], _, _ => rfl
  | (x, k) :: r, n, h => by
    show (if k == .cell then cellsFrom (n + 1) r [(x, n)] else cellsFrom n r []) = []
    rw [if_neg (by have := h (x, k) (by simp); simpa using this)]
    exact cellsFrom_no r n fun y hy => h y (by simp [hy])
theorem comp_core {pins : List (Addr × Obj)} {σ : St} {H : Hp} {s : Shared} {use : Option (Value → Sem Unit)} {Qk : VK} {Qv : Value → Shared → Prop} (hcalm : X.calm = true) (hclos : closureFor scope X.env = pure cl) (hcl : ∀ x c, cl.lookup x = some c → X.env.cells.lookup x = some c)
    (hkind : scope.kind = .function) (hnames : ∀ x ∈ scope.names, x.2 = .local → scope.names.lookup x.1 = some .local) (hcell : ∀ y ∈ scope.names, y.2 ≠ .cell)
    (hhas : ∀ x, ((relabel scope X.env).names.lookup x = some .cell ∨ (relabel scope X.env).names.lookup x = some .free) → ∃ c, cl.lookup x = some c)
    (hcap : ∀ (i j : Nat), cap[i]? = some (some j) → ∃ x, nm[i]? = some x ∧ X.N[j]? = some x ∧ CapOk X scope cl x) (hlen : cap.length = nm.length)
    (hi : PI X tg iter wi) (hg : ∀ C s0 H0 fp, PG (cxComp X nm scope cl C s0 H0 fp) tg g) (ht : ∀ C s0 H0 fp, PTs (cxComp X nm scope cl C s0 H0 fp) ifs tc)
    (he : ∀ C s0 H0 fp, PE (cxComp X nm scope cl C s0 H0 fp) elt te) (hs : ∀ x, foldedSetIterable iter X.env x = pure x)
    (I : Inv X pins σ H s) (h : tComp cap wi g tc te σ H Qk) (fin : ∀ (s4 : Shared) (C D : Addr) (m4 : Str → Option Value) (Hn : Hp), Inv X pins σ Hn s4 → BlkAt X pins Hn s4 C m4 → Qk (.ref D) Hn → compPost (model X.prog X.w) X.A X.xe use Qv (.ref D) C (.ok .next) s4) :
    wpAny (model X.prog X.w) X.A (comprehension (.ListComp elt [⟨tg, iter, ifs, 0⟩] scope pos) scope X.env (firstIterPos [⟨tg, iter, ifs, 0⟩] pos) (newList []) (firstAsync [⟨tg, iter, ifs, 0⟩]) (firstIter [⟨tg, iter, ifs, 0⟩] X.env) use) Qv X.xe s := by
  have nc : ∀ k, cellsFrom k scope.names [] ++ cl = cl := fun k => by rw [cellsFrom_no _ _ hcell]; rfl
  have nx : ∀ C s0 H0 fp, cxCompO X nm scope cl C s0 H0 fp = cxComp X nm scope cl C s0 H0 fp := fun C s0 H0 fp => by
    have : (fun y => scope.names.lookup y == some .cell) = fun _ => false := funext fun y => by
      rw [beq_eq_false_iff_ne]
      exact fun e => hcell _ (lookup_mem' e) rfl
    unfold cxCompO cxComp
    rw [this]
  exact comp_coreO hcalm hclos hcl hkind hnames (fun y hy h => absurd h (hcell y hy)) (fun x _ h => hhas x h) (fun i j h => let ⟨x, a, b, d⟩ := hcap i j h; ⟨x, a, b, d, fun z => hcell _ z rfl⟩) hlen hi
    (fun k C s0 H0 fp => by rw [nc, nx]; exact hg C s0 H0 fp) (fun k C s0 H0 fp => by rw [nc, nx]; exact ht C s0 H0 fp) (fun k C s0 H0 fp => by rw [nc, nx]; exact he C s0 H0 fp) hs I h fin
theorem pe_comp (hcalm : X.calm = true) (hclos : closureFor scope X.env = pure cl) (hcl : ∀ x c, cl.lookup x = some c → X.env.cells.lookup x = some c)
    (hkind : scope.kind = .function) (hnames : ∀ x ∈ scope.names, x.2 = .local → scope.names.lookup x.1 = some .local) (hcell : ∀ y ∈ scope.names, y.2 ≠ .cell)
    (hhas : ∀ x, ((relabel scope X.env).names.lookup x = some .cell ∨ (relabel scope X.env).names.lookup x = some .free) → ∃ c, cl.lookup x = some c)
    (hcap : ∀ (i j : Nat), cap[i]? = some (some j) → ∃ x, nm[i]? = some x ∧ X.N[j]? = some x ∧ CapOk X scope cl x) (hlen : cap.length = nm.length)
    (hi : PI X tg iter wi) (hg : ∀ C s0 H0 fp, PG (cxComp X nm scope cl C s0 H0 fp) tg g) (ht : ∀ C s0 H0 fp, PTs (cxComp X nm scope cl C s0 H0 fp) ifs tc)
    (he : ∀ C s0 H0 fp, PE (cxComp X nm scope cl C s0 H0 fp) elt te) (hs : ∀ x, foldedSetIterable iter X.env x = pure x := by intro _; rfl) :
    PE X (.ListComp elt [⟨tg, iter, ifs, 0⟩] scope pos) (tComp cap wi g tc te) := by
  intro pins s σ H Q I h
  rw [eval_ListComp]
  exact comp_core hcalm hclos hcl hkind hnames hcell hhas hcap hlen hi hg ht he hs I h fun s4 C D m4 Hn I4 B q => ⟨m4, B.ns, fun h' hs' => ⟨.ref D, Hn, B.off I4 hs', rfl, q⟩⟩
end
end L2
set_option Elab.async false
set_option linter.all false
set_option maxRecDepth 100000
set_option maxHeartbeats 4000000
namespace L2
variable {nk : Nat}
open PySem PySem.Spec PyProof.Rows

def tx (l : List Nat) : Str := ⟨l.toArray⟩
theorem tx_cps (l : List Nat) : (tx l).cps.toList = l := rfl
theorem tx_of (z : Str) : tx z.cps.toList = z := by cases z; rfl
theorem tx_len (l : List Nat) : (tx l).length = l.length := by show l.toArray.size = _; simp
theorem tx_app (a b : List Nat) : tx a ++ tx b = tx (a ++ b) := by
  show (⟨a.toArray ++ b.toArray⟩ : Str) = ⟨(a ++ b).toArray⟩
  simp
theorem tx_inj {a b : List Nat} : tx a = tx b ↔ a = b := ⟨fun h => by have := congrArg (fun z : Str => z.cps.toList) h; exact this, fun h => by rw [h]⟩
def Itv (vals : List V) : It := ⟨fun i _ => i < vals.length, fun i H x H' => H' = H ∧ vals[i]? = some x, fun i _ => vals.length ≤ i⟩
section
variable {X : Cx} {tg : Expr}
/-- the signs of a text -/
def signsV (l : List Nat) : List V := l.map fun c => .str (tx [c])
def iStr (tl : TE) : TI := fun σ H R => tl σ H fun x H1 => ∃ l, x = .str (tx l) ∧ R (Itv (signsV l)) H1
theorem turn_signs {P : Program} {w : World} {K : PySem.W.Frag} {tg : Expr} {it : Addr} {l : List Nat} {t : Tok} {ty : String} (hty : ["enumerate", "zip", "dict_itemiterator", "dict_reverseitemiterator", "odict_iterator", "itertools.zip_longest", "itertools.pairwise"].contains ty = false)
    (next : ∀ {A : Around} {s : Shared} {i c : Nat} {Q : Option Value → Shared → Prop} {E : Value → Shared → Prop}, s.heap.IsStrIter it ty (tx l) t i → (tx l).cps[i]? = some c →
      (∀ h', h'.IsStrIter it ty (tx l) t (i + 1) → Heap.SameBut it s.heap h' → Q (some (.str ⟨#[c]⟩ s.toks)) { s with heap := h', toks := s.toks + 1 }) → wpAny (model P w) A (pyNext (.ref it)) Q E s)
    (stop : ∀ {A : Around} {s : Shared} {i : Nat} {Q : Option Value → Shared → Prop} {E : Value → Shared → Prop}, A.handled = none → s.heap.IsStrIter it ty (tx l) t i → (tx l).cps[i]? = none →
      (∀ h', Heap.ExtBut it s.heap h' → Q none { s with heap := h' }) → wpAny (model P w) A (pyNext (.ref it)) Q E s)
    (hself : ∀ (A : Around) (i : Nat) (s : Shared) (Q : Value → Shared → Prop) (E : Value → Shared → Prop), s.heap.IsStrIter it ty (tx l) t i → Q (.ref it) s → wpAny (model P w) A (pyIter (.ref it)) Q E s) :
    Turn P w K tg (Itv (signsV l)) [it] it (fun i h => h.IsStrIter it ty (tx l) t i) where
  mem := by simp
  obj := fun i h st b hb => by
    have e : b = it := by simpa using hb
    subst e
    obtain ⟨o, e, _, d⟩ := st
    exact ⟨o, e, fun v z => by rw [d] at z; cases z⟩
  keep := fun i h h' st k => by
    obtain ⟨o, e, r⟩ := st
    exact ⟨o, k it (by simp) o e, r⟩
  item := by
    intro X hP hw hK hc i pins s σ H E I hf st hg
    subst hP hw hK
    obtain ⟨f0, f1, f2, f3, f4, f5⟩ := hf it (by simp)
    have hg : i < l.length := by have hg : i < (signsV l).length := hg; simpa [signsV] using hg
    obtain ⟨c, hx⟩ : ∃ c, l[i]? = some c := ⟨_, List.getElem?_eq_getElem hg⟩
    refine next st (c := c) (by simpa [tx] using hx) fun h' st' hs => ?_
    have I1 : Inv X pins σ H { s with heap := h', toks := s.toks + 1 } := I.turned (fun b o hb e => hs.extBut b o hb e) f0 f1 f3 f4 f5
    obtain ⟨o, e, cl, d⟩ := id st'
    exact ⟨_, rfl, go_of (s := { s with heap := h', toks := s.toks + 1 }) e cl d hty ⟨.str (tx [c]), H, I1, I.tkS, ⟨rfl, by unfold signsV; rw [List.getElem?_map, hx]; rfl⟩, st', fun b hb => (hf b hb).1⟩⟩
  done := by
    intro X hP hw hK hc i pins s σ H E I hf st hg
    subst hP hw hK
    obtain ⟨f0, f1, f2, f3, f4, f5⟩ := hf it (by simp)
    have hg : l.length ≤ i := by have hg : (signsV l).length ≤ i := hg; simpa [signsV] using hg
    exact stop (I.ok.hd hc) st (by simpa [tx] using hg) fun h' hs => ⟨rfl, I.turned (t' := s.toks) (fun b o hb e => hs b o hb e) f0 f1 f3 f4 f5⟩
  self := fun A i s Q E st h => hself A i s Q E st h
theorem pi_str {l : Expr} {tl : TE} (hl : PE X l tl) : PI X tg l (iStr tl) := by
  intro pins s σ H R I h
  refine thu (hl pins s σ H _ I h) fun v s1 kt1 ⟨x, H1, I1, r1, q1⟩ => ?_
  obtain ⟨l, e, q⟩ := q1
  subst e
  obtain ⟨t, rfl⟩ := r1
  have fp : ∀ b ∈ [s1.heap.objs.size], FpOk X pins H1 b := fun b hb => by
    have e : b = s1.heap.objs.size := by simpa using hb
    subst e
    exact I1.fpOk (Nat.le_refl _) (I1.hok.fresh (Nat.le_refl _))
  cases ha : (tx l).cps.all (· < 128)
  · exact wpAny_pyIter_wide ha ⟨s1.heap.objs.size, [s1.heap.objs.size], _, _, H1, rfl, I1.kept (t' := s1.toks) fun b o e => Heap.get?_push_of_some _ e, turn_signs (l := l) (t := t.1) (ty := "str_iterator") (by decide) (fun a b c => wpAny_pyNext_wide_item a b c) (fun hh a b c => wpAny_pyNext_wide_end hh a b c) (fun A i s Q E st h => wpAny_pyIter_striter_wide st h), ⟨_, Heap.get?_push_size _ rfl, rfl, rfl⟩, fp, q⟩
  · exact wpAny_pyIter_ascii ha ⟨s1.heap.objs.size, [s1.heap.objs.size], _, _, H1, rfl, I1.kept (t' := s1.toks) fun b o e => Heap.get?_push_of_some _ e, turn_signs (l := l) (t := t.1) (ty := "str_ascii_iterator") (by decide) (fun a b c => wpAny_pyNext_ascii_item a b c) (fun hh a b c => wpAny_pyNext_ascii_end hh a b c) (fun A i s Q E st h => wpAny_pyIter_striter_ascii st h), ⟨_, Heap.get?_push_size _ rfl, rfl, rfl⟩, fp, q⟩

def cutN (l : List Nat) (lo hi : Option Int) : List Nat := (l.drop (HT.sIx l.length 0 lo)).take (HT.sIx l.length l.length hi - HT.sIx l.length 0 lo)
theorem cutN_length (l : List Nat) (lo hi : Option Int) : (cutN l lo hi).length ≤ l.length := by unfold cutN; rw [List.length_take, List.length_drop]; omega
theorem pick_range (l : List Nat) (i k : Nat) : ((List.range k).map fun (m : Nat) => i + m).filterMap (fun j => l[j]?) = (l.drop i).take k := by
  induction k generalizing i with
  | zero => simp
  | succ k ih =>
    rw [List.range_succ_eq_map, List.map_cons, List.map_map]
    have e : ((fun m => i + m) ∘ Nat.succ) = fun m => (i + 1) + m := by funext m; simp [Function.comp]; omega
    rw [e]
    by_cases h : i < l.length
    · rw [List.filterMap_cons]
      simp only [Nat.add_zero, List.getElem?_eq_getElem h]
      rw [ih (i + 1), List.drop_eq_getElem_cons h, List.take_succ_cons]
    · rw [List.filterMap_cons]
      have h' : l.length ≤ i := by omega
      simp only [Nat.add_zero, List.getElem?_eq_none h']
      rw [ih (i + 1), List.drop_eq_nil_of_le h', List.drop_eq_nil_of_le (by omega)]
      simp
theorem clipS (v : Int) (n d : Nat) : (if (1 : Int) > 0 then max 0 (min (if v < 0 then v + (n : Int) else v) (n : Int)) else max (-1) (min (if v < 0 then v + (n : Int) else v) ((n : Int) - 1))) = ((HT.sIx n d (some v) : Nat) : Int) := by
  rw [if_pos (by omega)]
  show _ = (((if v < 0 then (v + (n : Int)).toNat else min v.toNat n) : Nat) : Int)
  by_cases hv : v < 0
  · simp only [if_pos hv]; omega
  · simp only [if_neg hv]; omega
theorem strIdx (lo hi : Option Int) (n : Nat) : Builtin.Str.strSliceIndices lo hi 1 n = (List.range (HT.sIx n n hi - HT.sIx n 0 lo)).map fun (m : Nat) => HT.sIx n 0 lo + m := by
  have key : ∀ a b : Nat, sliceRange (a : Int) (b : Int) 1 = (List.range (b - a)).map fun (m : Nat) => a + m := fun a b => by
    unfold sliceRange
    have e : (if (1 : Int) > 0 then (if (a : Int) < (b : Int) then ((b : Int) - a + 1 - 1) / 1 else 0) else (if (a : Int) > b then ((a : Int) - b - 1 - 1) / (-1) else 0)).toNat = b - a := by
      rw [if_pos (by omega)]
      by_cases h : (a : Int) < b
      · rw [if_pos h]; omega
      · rw [if_neg h]; omega
    dsimp only
    rw [e]
    refine List.map_congr_left fun k _ => ?_
    omega
  unfold Builtin.Str.strSliceIndices
  rw [← key]
  dsimp only
  congr 1
  · cases lo with
    | none => rfl
    | some v => exact clipS v n 0
  · cases hi with
    | none => rfl
    | some v => exact clipS v n n
theorem slice_tx (l : List Nat) (lo hi : Option Int) : Txt.slice (tx l) lo hi = tx (cutN l lo hi) := by
  unfold Txt.slice
  rw [strIdx, tx_len]
  split
  · rename_i h
    simp only [beq_self_eq_true, Bool.true_and, beq_iff_eq, List.length_map, List.length_range] at h
    unfold cutN
    have h1 := HT.sIx_le l.length l.length (Nat.le_refl _) hi
    have h2 := HT.sIx_le l.length 0 (Nat.zero_le _) lo
    by_cases hz : l.length = 0
    · have : l = [] := List.eq_nil_of_length_eq_zero hz
      subst this; simp
    · have e0 : HT.sIx l.length 0 lo = 0 := by omega
      rw [e0, List.drop_zero, List.take_of_length_le (by omega)]
  · unfold cutN tx
    have : ∀ j : Nat, (l.toArray)[j]? = l[j]? := fun j => by simp
    simp only [this]
    rw [pick_range]

def rSlS : V → Option Int → Option Int → Hp → VK → Prop := fun x lo hi H Q => ∃ l, x = .str (tx l) ∧ l.length ≤ sizeLine ∧ Q (.str (tx (cutN l lo hi))) H
theorem part_of {v : Value} {o : Option Int} (p : IsPart v o) : ∃ q : Option (Int × Tok), v = partValue q ∧ q.map (·.1) = o := by
  cases p with
  | none => exact ⟨none, rfl, rfl⟩
  | int i t => exact ⟨some (i, t), rfl, rfl⟩
theorem sl_str : SlR X rSlS := by
  intro pins s σ H x v vl vu lo hi sl Q I rx hs pl pu h
  obtain ⟨l, e, hz, q⟩ := h
  subst e
  obtain ⟨t, rfl⟩ := rx
  obtain ⟨pl', rfl, rfl⟩ := part_of pl
  obtain ⟨pu', rfl, rfl⟩ := part_of pu
  refine ⟨"str", _, F.slot_str_getitem.lookup, typeIs_str _ _ _, ?_⟩
  refine wpAny_getItem_str_slice (l := pl') (u := pu') (st := none) hs rfl ?_
  have e := slice_tx l (pl'.map (·.1)) (pu'.map (·.1))
  unfold Txt.slice at e
  have hl : (tx (cutN l (pl'.map (·.1)) (pu'.map (·.1)))).length ≤ sizeLine := by rw [tx_len]; exact Nat.le_trans (cutN_length l _ _) hz
  show (if ((1 : Int) == 1 && (Builtin.Str.strSliceIndices (pl'.map (·.1)) (pu'.map (·.1)) 1 (tx l).length).length == (tx l).length) = true then Made.val (.str (tx l) t.1) else Made.str ⟨((Builtin.Str.strSliceIndices (pl'.map (·.1)) (pu'.map (·.1)) 1 (tx l).length).filterMap ((tx l).cps[·]?)).toArray⟩).post (EP X pins σ Q) s
  split
  · rename_i hc
    rw [if_pos hc] at e
    rw [← e] at q
    exact ⟨.str (tx l), H, I, ⟨t, rfl⟩, q⟩
  · rename_i hc
    rw [if_neg hc] at e
    rw [e]
    exact ⟨hl, ⟨.str _, H, I.tok _, I.tkS, q⟩⟩

theorem in_one (c : Nat) (l : List Nat) : (!(Builtin.Str.occurrences (tx l) (tx [c]) 0 (tx l).length 1).isEmpty) = decide (c ∈ l) := StrLaws.found_one (tx l) c
def rInS (neg : Bool) : R2 := fun x y H Q => ∃ c l, x = .str (tx [c]) ∧ y = .str (tx l) ∧ Q (.bl (if neg then !decide (c ∈ l) else decide (c ∈ l))) H
theorem op_in_one : OpR X (compareOp .In) (rInS false) := by
  intro pins s σ H x y v u Q I rx ry h
  obtain ⟨c, l, rfl, rfl, q⟩ := h
  exact op_in_str pins s σ H _ _ v u Q I rx ry ⟨_, _, rfl, rfl, by rw [in_one]; exact q⟩
theorem op_le_one : OpR X (compareOp .LtE) (fun x y H Q => ∃ c d, x = .str (tx [c]) ∧ y = .str (tx [d]) ∧ Q (.bl (decide (c ≤ d))) H) := by
  intro pins s σ H x y v u Q I rx ry h
  obtain ⟨c, d, rfl, rfl, q⟩ := h
  obtain ⟨t, rfl⟩ := rx
  obtain ⟨t', rfl⟩ := ry
  refine PySem.P.le_str ⟨.bl _, H, I, ?_, q⟩
  show Value.bool _ = Value.bool _
  congr 1
  show (!decide ([d] < [c])) = decide (c ≤ d)
  by_cases hcd : c ≤ d
  · rw [decide_eq_true hcd, decide_eq_false]; rfl
    intro z
    cases z with
    | rel z => omega
    | cons z => cases z
  · rw [decide_eq_false hcd, decide_eq_true]; rfl
    exact .rel (by omega)
theorem strsAre_of : ∀ {ys : List (List Nat)} {its : List Value}, Vals nk (ys.map fun l => V.str (tx l)) its → StrsAre its (ys.map tx)
  | [], _, r => by cases r; exact .nil
  | y :: ys, _, r => by
    cases r with
    | cons r rr =>
      obtain ⟨t, rfl⟩ := r
      exact .cons _ _ (strsAre_of rr)
/-- the tokens of the texts of one sign are below n -/
def TkAll (n : Nat) (its : List Value) : Prop := ∀ (x : Str) (t : Tok), Value.str x t ∈ its → x.length = 1 → 0 < t ∧ t < n
theorem of_strsAre : ∀ {its : List Value} {ss : List Str}, StrsAre its ss → TkAll nk its → Vals nk (ss.map fun z => V.str z) its
  | _, _, .nil, _ => .nil
  | _, _, .cons y t r, h => .cons ⟨⟨t, h y t List.mem_cons_self⟩, rfl⟩ (of_strsAre r fun x u hx => h x u (List.mem_cons_of_mem _ hx))
theorem tkAll_of : ∀ {vs : List V} {its : List Value}, Vals nk vs its → TkAll nk its
  | _, _, .nil => fun _ _ h => nomatch h
  | v :: _, _, .cons r t => fun x u hx => by
    rcases List.mem_cons.mp hx with e | hx
    · subst e
      cases v with
      | str y => obtain ⟨tk, e⟩ := r; cases e; exact tk.2
      | non => cases r
      | bl b => cases r
      | int i => obtain ⟨_, e⟩ := r; cases e
      | byt b => obtain ⟨_, e⟩ := r; cases e
      | flt b => obtain ⟨_, e⟩ := r; cases e
      | ref a => cases r
      | ty n => cases r
    · exact tkAll_of t x u hx
theorem strs_of : ∀ {ys : List (List Nat)} {its : List Value}, Vals nk (ys.map fun l => V.str (tx l)) its → ∃ zs : List (Str × Tok), its = strValues zs ∧ zs.map (·.1) = ys.map tx
  | [], _, r => by cases r; exact ⟨[], rfl, rfl⟩
  | y :: ys, _, r => by
    cases r with
    | cons r rr =>
      obtain ⟨t, rfl⟩ := r
      obtain ⟨zs, rfl, e⟩ := strs_of rr
      exact ⟨(tx y, t.1) :: zs, rfl, by rw [List.map_cons, List.map_cons, e]⟩
/-- parts with a text between -/
def joinN (sep : List Nat) : List (List Nat) → List Nat
  | [] => []
  | [x] => x
  | x :: y :: r => x ++ sep ++ joinN sep (y :: r)
theorem joinN_nil : ∀ ys : List (List Nat), joinN [] ys = ys.flatten
  | [] => rfl
  | [x] => by simp [joinN]
  | x :: y :: r => by rw [joinN, joinN_nil (y :: r)]; simp
theorem join_tx (sep : List Nat) : ∀ ys : List (List Nat), Txt.join (tx sep) (ys.map tx) = tx (joinN sep ys) := fun ys => by
  show Builtin.Str.glued (tx sep) (ys.map tx) = _
  rw [StrLaws.glued_eq_join]
  induction ys with
  | nil => rfl
  | cons x r ih =>
    cases r with
    | nil => rfl
    | cons y r =>
      show tx x ++ tx sep ++ Str.join (tx sep) ((y :: r).map tx) = tx (x ++ sep ++ joinN sep (y :: r))
      rw [ih, tx_app, tx_app]
def rJoin (K : PySem.W.Frag) : V → List V → Hp → VK → Prop := fun x vs H Q => ∃ (sep : List Nat) (a : Addr) (ys : List (List Nat)), x = .str (tx sep) ∧ vs = [.ref a] ∧ SqL K H a (ys.map fun l => V.str (tx l)) ∧ (ys.map List.length).sum + ys.length * sep.length ≤ 16777216 ∧ Q (.str (tx (joinN sep ys))) H
theorem Inv.joinS {pins : List (Addr × Obj)} {σ : St} {H : Hp} {s : Shared} {Q : VK} {sep : Str} {zs : List (Str × Tok)} (I : Inv X pins σ H s) (hl : (Builtin.Str.glued sep (zs.map (·.1))).length ≤ sizeLine) (hk : TkAll s.toks (strValues zs)) (q : Q (.str (Txt.join sep (zs.map (·.1)))) H) : (joinMade sep zs).post (EP X pins σ Q) s := by
  have fin : (Made.str (Builtin.Str.glued sep (zs.map (·.1)))).post (EP X pins σ Q) s := ⟨hl, ⟨.str _, H, I.tok _, I.tkS, q⟩⟩
  cases zs with
  | nil => exact fin
  | cons p r =>
    cases r with
    | nil =>
      have e : Txt.join sep [p.1] = p.1 := by
        show Builtin.Str.glued sep [p.1] = _
        rw [StrLaws.glued_eq_join]; rfl
      rw [show ([p] : List (Str × Tok)).map (·.1) = [p.1] from rfl, e] at q
      exact ⟨.str p.1, H, I, ⟨⟨p.2, hk p.1 p.2 (by simp [strValues])⟩, rfl⟩, q⟩
    | cons _ _ => exact fin
theorem mt_join : MtR X "str.join" (rJoin X.K) := by
  intro pins s σ H x vs v us Q I rx rv h
  obtain ⟨sep, a, ys, rfl, rfl, hS, hz, q⟩ := h
  obtain ⟨t, rfl⟩ := rx
  obtain ⟨u, rfl, ru⟩ := rv.one
  cases ru
  obtain ⟨its, r, p, _⟩ := I.list hS
  have hk : TkAll s.toks its := tkAll_of r
  obtain ⟨zs, rfl, ez⟩ := strs_of (by simpa using r)
  have hok : JoinOk (tx sep) (zs.map (·.1)) = true := joinOk_of (by
    rw [ez, List.map_map, tx_len, List.length_map]
    have e : ((fun z : Str => z.length) ∘ tx) = List.length := by funext l; exact tx_len l
    rw [e]; exact hz)
  have hj := hok
  unfold JoinOk at hj
  rw [Bool.not_eq_true'] at hj
  exact call_meets F.slot_str_join (typeIs_str _ _ _) F.entry_str_join (F.args_str_join_2 _ _) (meets_str_join_list (tx sep) t.1 a zs hj) ⟨p.isList, I.joinS (joinFit_length hj) hk (by rw [ez, join_tx]; exact q)⟩
end

end L2
set_option Elab.async false
set_option linter.all false
set_option maxRecDepth 100000
set_option maxHeartbeats 4000000
namespace L2
variable {nk : Nat}
open PySem PySem.Spec PyProof.Rows

inductive D where
  | non | bl (b : Bool) | int (i : Int) | str (l : List Nat) | tnil | tcons (d r : D)
  deriving DecidableEq
def D.tup : List D → D
  | [] => .tnil
  | d :: r => .tcons d (D.tup r)
mutual
def Dp (K : PySem.W.Frag) (H : Hp) : D → V → Prop
  | .non, v => v = .non
  | .bl b, v => v = .bl b
  | .int i, v => v = .int i
  | .str l, v => v = .str (tx l)
  | .tnil, v => ∃ p, v = .ref p ∧ SqT K H p []
  | .tcons d r, v => ∃ p x xs, v = .ref p ∧ SqT K H p (x :: xs) ∧ Dp K H d x ∧ DpL K H r xs
def DpL (K : PySem.W.Frag) (H : Hp) : D → List V → Prop
  | .tnil, xs => xs = []
  | .tcons d r, xs => ∃ x ys, xs = x :: ys ∧ Dp K H d x ∧ DpL K H r ys
  | .non, _ => False
  | .bl _, _ => False
  | .int _, _ => False
  | .str _, _ => False
end
/-- tuples stay -/
structure Ext (K : PySem.W.Frag) (H H' : Hp) : Prop where
  t : ∀ p xs, SqT K H p xs → SqT K H' p xs
  z : ∀ b o u, H b = some (.frz o u) → H' b = some (.frz o u)
instance {K : PySem.W.Frag} {H H' : Hp} : CoeFun (Ext K H H') (fun _ => ∀ p xs, SqT K H p xs → SqT K H' p xs) := ⟨Ext.t⟩
mutual
theorem Dp.mono {K : PySem.W.Frag} {H H' : Hp} (e : Ext K H H') : ∀ {d : D} {v : V}, Dp K H d v → Dp K H' d v
  | .non, _, h => by unfold Dp at h ⊢; exact h
  | .bl _, _, h => by unfold Dp at h ⊢; exact h
  | .int _, _, h => by unfold Dp at h ⊢; exact h
  | .str _, _, h => by unfold Dp at h ⊢; exact h
  | .tnil, _, h => by unfold Dp at h ⊢; obtain ⟨p, e1, e2⟩ := h; exact ⟨p, e1, e _ _ e2⟩
  | .tcons d r, _, h => by unfold Dp at h ⊢; obtain ⟨p, x, xs, e1, e2, h1, h2⟩ := h; exact ⟨p, x, xs, e1, e _ _ e2, Dp.mono e h1, DpL.mono e h2⟩
theorem DpL.mono {K : PySem.W.Frag} {H H' : Hp} (e : Ext K H H') : ∀ {d : D} {v : List V}, DpL K H d v → DpL K H' d v
  | .non, _, h => by unfold DpL at h; exact h.elim
  | .bl _, _, h => by unfold DpL at h; exact h.elim
  | .int _, _, h => by unfold DpL at h; exact h.elim
  | .str _, _, h => by unfold DpL at h; exact h.elim
  | .tnil, _, h => by unfold DpL at h ⊢; exact h
  | .tcons d r, _, h => by unfold DpL at h ⊢; obtain ⟨x, xs, e1, h1, h2⟩ := h; exact ⟨x, xs, e1, Dp.mono e h1, DpL.mono e h2⟩
end
/-- a row of values -/
abbrev Dps (K : PySem.W.Frag) (H : Hp) : List D → List V → Prop := Paired fun d v => Dp K H d v
theorem Dps.mono {K : PySem.W.Frag} {H H' : Hp} (e : Ext K H H') : ∀ {ds : List D} {vs : List V}, Dps K H ds vs → Dps K H' ds vs
  | _, _, .nil => .nil
  | _, _, .cons h t => .cons (h.mono e) (Dps.mono e t)
theorem DpL.of {K : PySem.W.Frag} {H : Hp} : ∀ {ds : List D} {vs : List V}, Dps K H ds vs → DpL K H (D.tup ds) vs
  | _, _, .nil => by unfold D.tup DpL; rfl
  | _, _, .cons h t => by unfold D.tup DpL; exact ⟨_, _, rfl, h, DpL.of t⟩
theorem DpL.to {K : PySem.W.Frag} {H : Hp} : ∀ {ds : List D} {vs : List V}, DpL K H (D.tup ds) vs → Dps K H ds vs
  | [], _, h => by unfold D.tup DpL at h; subst h; exact .nil
  | d :: ds, _, h => by unfold D.tup DpL at h; obtain ⟨x, xs, rfl, h1, h2⟩ := h; exact .cons h1 (DpL.to h2)
/-- a tuple's value -/
theorem Dp.tupI {K : PySem.W.Frag} {H : Hp} {p : Addr} {vs : List V} {ds : List D} (h : SqT K H p vs) (hd : Dps K H ds vs) : Dp K H (D.tup ds) (.ref p) := by
  cases hd with
  | nil => unfold D.tup Dp; exact ⟨p, rfl, h⟩
  | cons a t => unfold D.tup Dp; exact ⟨p, _, _, rfl, h, a, DpL.of t⟩
theorem Dp.tupE {K : PySem.W.Frag} {H : Hp} {v : V} {ds : List D} (h : Dp K H (D.tup ds) v) : ∃ p vs, v = .ref p ∧ SqT K H p vs ∧ Dps K H ds vs := by
  cases ds with
  | nil => unfold D.tup Dp at h; obtain ⟨p, e, q⟩ := h; exact ⟨p, [], e, q, .nil⟩
  | cons d r => unfold D.tup Dp at h; obtain ⟨p, x, xs, e, q, h1, h2⟩ := h; exact ⟨p, _, e, q, .cons h1 (DpL.to h2)⟩

theorem SqT.same {K : PySem.W.Frag} {H H' : Hp} (e : Same H H') : Ext K H H' := ⟨fun p xs h => by
  rcases h with (h | ⟨o, h⟩) | h
  · exact .inl (.inl (e _ _ h))
  · exact .inl (.inr ⟨o, e _ _ h⟩)
  · exact .inr h, fun b o u h => e _ _ h⟩
theorem same_new {H : Hp} {p : Addr} (h : H p = none) (o : HO) : Same H (upd H p o) := fun b u q => by rw [upd_ne (ne_of_none q h)]; exact q
/-- all but l is as it was -/
def But (l : Addr) (H H' : Hp) : Prop := ∀ b o, b ≠ l → H b = some o → H' b = some o
theorem But.refl {l : Addr} (H : Hp) : But l H H := fun _ _ _ h => h
theorem But.trans {l : Addr} {H H1 H2 : Hp} (a : But l H H1) (b : But l H1 H2) : But l H H2 := fun c o h q => b c o h (a c o h q)
theorem Same.but {l : Addr} {H H' : Hp} (a : Same H H') : But l H H' := fun b o _ q => a b o q
theorem but_upd {l : Addr} {H : Hp} {o : HO} : But l H (upd H l o) := fun b u h q => by rw [upd_ne h]; exact q
theorem SqT.but {K : PySem.W.Frag} {l : Addr} {xs : List V} {H H' : Hp} (e : But l H H') (hl : H l = some (.lst xs)) : Ext K H H' := by
  have hne : ∀ {p : Addr} {o : HO}, H p = some o → (∀ zs, o ≠ .lst zs) → p ≠ l := fun {p o} q hn z => by subst z; rw [hl] at q; cases q; exact hn _ rfl
  refine ⟨fun p ys h => ?_, fun b o u h => e _ _ (hne h (fun _ z => by cases z)) h⟩
  rcases h with (h | ⟨o, h⟩) | h
  · exact .inl (.inl (e _ _ (hne h (fun _ z => by cases z)) h))
  · exact .inl (.inr ⟨o, e _ _ (hne h (fun _ z => by cases z)) h⟩)
  · exact .inr h
theorem Ext.refl {K : PySem.W.Frag} {H : Hp} : Ext K H H := ⟨fun _ _ h => h, fun _ _ _ h => h⟩
theorem Ext.trans {K : PySem.W.Frag} {H H1 H2 : Hp} (a : Ext K H H1) (b : Ext K H1 H2) : Ext K H H2 := ⟨fun p xs h => b p xs (a p xs h), fun c o u h => b.z c o u (a.z c o u h)⟩
theorem SqT.new {K : PySem.W.Frag} {H : Hp} {p : Addr} {xs : List V} : SqT K (upd H p (.tup xs)) p xs := SqT.of upd_same
/-- a list that is read stays, where it is not the one that changes -/
theorem SqL.but {K : PySem.W.Frag} {l a : Addr} {xs : List V} {H H' : Hp} (e : But l H H') (hne : a ≠ l) (h : SqL K H a xs) : SqL K H' a xs := by
  rcases h with (h | ⟨o, h⟩) | h
  · exact .inl (.inl (e _ _ hne h))
  · exact .inl (.inr ⟨o, e _ _ hne h⟩)
  · exact .inr h

structure Has (P : Program) (w : World) (K : PySem.W.Frag) (mg : Str → Option Value) (base : Heap) (k : Nat) (x : Str) (ps : List Str) (sp : Sp) : Prop where
  ex : ∃ (f : Addr) (fd : FuncData), mg x = some (.ref f) ∧ PySem.W.keepIn K (.ref f) = true ∧ Binds K fd ps [] ∧ FnOk P w K mg base CX0 k f fd ps sp
theorem Has.mono {P : Program} {w : World} {K : PySem.W.Frag} {mg : Str → Option Value} {base : Heap} {j k : Nat} {x : Str} {ps : List Str} {sp : Sp} (h : Has P w K mg base j x ps sp) (hj : j ≤ k) : Has P w K mg base k x ps sp := by
  obtain ⟨f, fd, a, b, c, d⟩ := h.ex
  exact ⟨f, fd, a, b, c, d.mono hj⟩
end L2

namespace L2
variable {nk : Nat}
open PySem PySem.Spec PyProof.Rows
/-- a constant of the module -/
theorem pe_gc {X : Cx} {x : Str} {v : V} {pos : Pos} (h : ∃ u, X.mg x = some u ∧ RelV 0 v u) (hg : Gl X x := by rfl) (hd : (x == ("__debug__" : Str)) = false := by decide) : PE X (.Name x pos) (tC v) := by
  obtain ⟨u, a, b⟩ := h
  exact pe_glob hg a b hd
end L2

namespace L2
variable {nk : Nat}
open PySem PySem.Spec PyProof.Rows
section
variable {X : Cx} {o e : Expr} {es : List Expr} {to : TE} {t : TA} {name : Str} {apos cpos : Pos} {id : String} {r : V → List V → Hp → VK → Prop}
def tML (r : V → List V → Hp → VK → Prop) (to : TE) (t : TA) : TE := fun σ H Q => to σ H fun x H1 => (∃ l ys, x = .ref l ∧ H1 l = some (.lst ys)) ∧ t σ H1 fun xs H2 => r x xs H2 Q
def tMS (r : V → List V → Hp → VK → Prop) (to : TE) (t : TA) : TE := fun σ H Q => to σ H fun x H1 => (∃ l, x = .str (tx l)) ∧ t σ H1 fun xs H2 => r x xs H2 Q
def tML0 (r : V → List V → Hp → VK → Prop) (to : TE) : TE := fun σ H Q => to σ H fun x H1 => (∃ l ys, x = .ref l ∧ H1 l = some (.lst ys)) ∧ r x [] H1 Q
theorem tyV_list {K : PySem.W.Frag} {x : V} {H : Hp} (h : ∃ l ys, x = .ref l ∧ H l = some (.lst ys)) : tyV K "list" x H := by
  obtain ⟨l, ys, rfl, h⟩ := h
  exact .inl ⟨rfl, _, .of h⟩
theorem tyV_str {K : PySem.W.Frag} {x : V} {H : Hp} (h : ∃ l, x = .str (tx l)) : tyV K "str" x H := by
  obtain ⟨l, rfl⟩ := h
  exact rfl
theorem pe_bmX {T : String} {ty : V → Hp → Prop} (hty' : ∀ x H, ty x H → tyV X.K T x H) (pa : PlainAttrs T) (slot : Slot T name id) (hty : typeOf (.builtin id) = pure (.type "method_descriptor")) (hm : MtR X id r) (ho : PE X o to) (ha : PA X (e :: es) t)
    (hbase : attributeBase o name X.env (eval o X.env) = eval o X.env)
    (hfew : ((backTo cpos (starEach (e :: es) X.env)).all (fun x => !x.1) && (backToKw cpos (keywordEach [] X.env)).all (fun x => x.1.isSome)
      && decide ((e :: es).length + ([] : List Keyword).length + (if ([] : List Keyword).isEmpty then 0 else 1) < 30)) = true)
    (hline : (apos.endLine == cpos.line) = true) (hs : starEach (e :: es) X.env = (false, eval e X.env) :: starEach es X.env) (hplain : (backTo cpos (starEach es X.env)).any (·.1) = false) :
    PE X (.Call (.Attribute o name apos) (e :: es) [] cpos) (fun σ H Q => to σ H fun x H1 => ty x H1 ∧ t σ H1 fun xs H2 => r x xs H2 Q) := by
  intro pins s σ H Q I h
  refine wpAny_Call_method_late hbase hfew hline rfl (thu (ho pins s σ H _ I h) fun v s1 kt1 ⟨x, H1, I1, r1, ty, q1⟩ => ?_)
  obtain ⟨h1, h2⟩ := tyV_is I1 r1 (hty' _ _ ty)
  refine ⟨T, id, pa, slot, hty, h1, h2, ?_⟩
  have hA := ha cpos pins s1 σ H1 _ I1 q1
  rw [hs] at hA ⊢
  refine Calls.callWith_builtin (by show (false || (backTo cpos (starEach es X.env)).any (·.1)) = false; rw [hplain] <;> rfl) (Calls.evalArgs_plain ?_)
  exact thu hA fun us s2 kt2 ⟨vs, H2, I2, r2, q2⟩ => hm pins s2 σ H2 x vs v us Q I2 (r1.up kt2) r2 q2
theorem pe_ml (slot : Slot "list" name id) (hty : typeOf (.builtin id) = pure (.type "method_descriptor")) (hm : MtR X id r) (ho : PE X o to) (ha : PA X (e :: es) t)
    (hbase : attributeBase o name X.env (eval o X.env) = eval o X.env := by rfl)
    (hfew : ((backTo cpos (starEach (e :: es) X.env)).all (fun x => !x.1) && (backToKw cpos (keywordEach [] X.env)).all (fun x => x.1.isSome)
      && decide ((e :: es).length + ([] : List Keyword).length + (if ([] : List Keyword).isEmpty then 0 else 1) < 30)) = true := by rfl)
    (hline : (apos.endLine == cpos.line) = true := by rfl) (hs : starEach (e :: es) X.env = (false, eval e X.env) :: starEach es X.env := by rfl) (hplain : (backTo cpos (starEach es X.env)).any (·.1) = false := by rfl) :
    PE X (.Call (.Attribute o name apos) (e :: es) [] cpos) (tML r to t) := pe_bmX (ty := fun x H1 => ∃ l ys, x = .ref l ∧ H1 l = some (.lst ys)) (fun _ _ h => tyV_list h) F.plainAttrs_list slot hty hm ho ha hbase hfew hline hs hplain
theorem pe_ms (slot : Slot "str" name id) (hty : typeOf (.builtin id) = pure (.type "method_descriptor")) (hm : MtR X id r) (ho : PE X o to) (ha : PA X (e :: es) t)
    (hbase : attributeBase o name X.env (eval o X.env) = eval o X.env := by rfl)
    (hfew : ((backTo cpos (starEach (e :: es) X.env)).all (fun x => !x.1) && (backToKw cpos (keywordEach [] X.env)).all (fun x => x.1.isSome)
      && decide ((e :: es).length + ([] : List Keyword).length + (if ([] : List Keyword).isEmpty then 0 else 1) < 30)) = true := by rfl)
    (hline : (apos.endLine == cpos.line) = true := by rfl) (hs : starEach (e :: es) X.env = (false, eval e X.env) :: starEach es X.env := by rfl) (hplain : (backTo cpos (starEach es X.env)).any (·.1) = false := by rfl) :
    PE X (.Call (.Attribute o name apos) (e :: es) [] cpos) (tMS r to t) := pe_bmX (ty := fun x H1 => ∃ l, x = .str (tx l)) (fun _ _ h => tyV_str h) F.plainAttrs_str slot hty hm ho ha hbase hfew hline hs hplain
theorem pe_ml0 (slot : Slot "list" name id) (hty : typeOf (.builtin id) = pure (.type "method_descriptor")) (hm : MtR X id r) (ho : PE X o to)
    (hbase : attributeBase o name X.env (eval o X.env) = eval o X.env := by rfl) (hline : (apos.endLine == cpos.line) = true := by rfl) : PE X (.Call (.Attribute o name apos) [] [] cpos) (tML0 r to) := by
  intro pins s σ H Q I h
  refine wpAny_Call_method0_late hbase hline (thu (ho pins s σ H _ I h) fun v s1 kt1 ⟨x, H1, I1, r1, ty, q1⟩ => ?_)
  obtain ⟨h1, h2⟩ := tyV_is I1 r1 (tyV_list ty)
  exact ⟨"list", id, F.plainAttrs_list, slot, hty, h1, h2, Calls.callWith_builtin rfl (PySem.evalArgs_none (hm pins s1 σ H1 x [] v [] Q I1 r1 .nil q1))⟩
end
end L2

namespace L2
variable {nk : Nat}
open PySem PySem.Spec PyProof.Rows
end L2

namespace L2
variable {nk : Nat}
open PySem PySem.Spec PyProof.Rows
section
variable {X : Cx} {e : Expr} {es : List Expr} {te : TE} {t : TA} {pos : Pos}
def tTupF (t : TA) : TE := fun σ H Q => t σ H fun xs H1 => xs.length ≤ sizeLine ∧ ∀ p H2, H1 p = none → H2 = upd H1 p (.tup xs) → Q (.ref p) H2
def tLstF (t : TA) : TE := fun σ H Q => t σ H fun xs H1 => xs.length ≤ sizeLine ∧ ∀ p H2, H1 p = none → H2 = upd H1 p (.lst xs) → Q (.ref p) H2
theorem pe_tupF {x1} (h : PA X es t) : PE X (.Tuple es x1 pos) (tTupF t) := by
  intro pins s σ H Q I hq
  refine wpAny_Tuple_spliced (thu (h pos pins s σ H _ I hq) fun us s1 kt1 ⟨xs, H1, I1, r, z, q⟩ => ⟨by rw [← r.length]; exact z, ?_⟩)
  have hf : H1 s1.heap.objs.size = none := I1.hok.fresh (Nat.le_refl _)
  refine ⟨.ref s1.heap.objs.size, upd H1 s1.heap.objs.size (.tup xs), I1.laid (t' := s1.toks) (fun b u e => Heap.get?_push_of_some _ e) (Nat.le_refl _) ?_, rfl, q _ _ hf rfl⟩
  exact ⟨z, us, r, ⟨_, Heap.get?_push_size _ rfl, rfl, _, rfl⟩⟩
theorem pe_lstF (h : PA X es t) : PE X (.List es pos) (tLstF t) := by
  intro pins s σ H Q I hq
  refine wpAny_List_spliced (thu (h pos pins s σ H _ I hq) fun us s1 kt1 ⟨xs, H1, I1, r, z, q⟩ => ⟨by rw [← r.length]; exact z, ?_⟩)
  have hf : H1 s1.heap.objs.size = none := I1.hok.fresh (Nat.le_refl _)
  refine ⟨.ref s1.heap.objs.size, upd H1 s1.heap.objs.size (.lst xs), I1.laid (t' := s1.toks) (fun b u e => Heap.get?_push_of_some _ e) (Nat.le_refl _) ?_, rfl, q _ _ hf rfl⟩
  exact ⟨z, us, 0, r, Heap.get?_push_size _ rfl⟩
theorem MtR.imp {id : String} {r r' : V → List V → Hp → VK → Prop} (h : MtR X id r) (i : ∀ x xs H Q, r' x xs H Q → r x xs H Q) : MtR X id r' := fun pins s σ H x xs v us Q I rx rv q => h pins s σ H x xs v us Q I rx rv (i _ _ _ _ q)
theorem CallR.imp {f : Value} {r r' : List V → Hp → VK → Prop} (h : CallR X f r) (i : ∀ xs H Q, r' xs H Q → r xs H Q) : CallR X f r' := fun pins s σ H xs us Q I rv q => h pins s σ H xs us Q I rv (i _ _ _ q)
theorem OpR.imp {f : Value → Value → Sem Value} {r r' : R2} (h : OpR X f r) (i : ∀ x y H Q, r' x y H Q → r x y H Q) : OpR X f r' := fun pins s σ H x y v u Q I rx ry q => h pins s σ H x y v u Q I rx ry (i _ _ _ _ q)
theorem SlR.imp {r r' : V → Option Int → Option Int → Hp → VK → Prop} (h : SlR X r) (i : ∀ x lo hi H Q, r' x lo hi H Q → r x lo hi H Q) : SlR X r' := fun pins s σ H x v vl vu lo hi sl Q I rx hs pl pu q => h pins s σ H x v vl vu lo hi sl Q I rx hs pl pu (i _ _ _ _ _ q)
def rAppendF : V → List V → Hp → VK → Prop := fun x vs H Q => ∃ l xs y, x = .ref l ∧ vs = [y] ∧ H l = some (.lst xs) ∧ xs.length < sizeLine ∧ ∀ H2, H2 = upd H l (.lst (xs ++ [y])) → Q .non H2
theorem mt_appendF : MtR X "list.append" rAppendF := MtR.imp (r := rAppend) mt_append fun _ _ _ _ ⟨l, xs, y, a, b, c, d, q⟩ => ⟨l, xs, y, a, b, c, d, q _ rfl⟩
def rPopF : V → List V → Hp → VK → Prop := fun x vs H Q => ∃ l xs y, x = .ref l ∧ vs = [] ∧ H l = some (.lst (xs ++ [y])) ∧ ∀ H2, H2 = upd H l (.lst xs) → Q y H2
theorem mt_popF : MtR X "list.pop" rPopF := MtR.imp (r := rPop) mt_pop fun _ _ _ _ ⟨l, xs, y, a, b, c, q⟩ => ⟨l, xs ++ [y], y, a, b, c, by simp, by rw [List.dropLast_concat]; exact q _ rfl⟩
def rTupleOf (K : PySem.W.Frag) : List V → Hp → VK → Prop := fun xs H Q => ∃ p ys, xs = [.ref p] ∧ SqL K H p ys ∧ ∀ l H2, H l = none → H2 = upd H l (.tup ys) → Q (.ref l) H2
theorem call_tupleL : CallR X (.type "tuple") (rTupleOf X.K) := CallR.imp call_tuple_of fun _ _ _ ⟨p, ys, a, b, q⟩ => ⟨p, ys, a, .inl ⟨b, fun l hl => q l _ hl rfl⟩⟩
def rCatF : R2 := fun x y H Q => ∃ l b xs zs, x = .ref l ∧ y = .ref b ∧ H l = some (.lst xs) ∧ H b = some (.lst zs) ∧ xs.length + zs.length ≤ sizeLine ∧ ∀ p H2, H p = none → H2 = upd H p (.lst (xs ++ zs)) → Q (.ref p) H2
theorem op_catF : OpR X (binaryOp .Add) rCatF := OpR.imp op_cat fun _ _ _ _ ⟨l, b, xs, zs, h1, h2, h3, h4, h5, q⟩ => ⟨l, b, xs, zs, h1, h2, h3, h4, h5, fun p hp => q p _ hp rfl⟩
end
end L2

namespace L2
variable {nk : Nat}
open PySem PySem.Spec PyProof.Rows
end L2

namespace L2
variable {nk : Nat}
open PySem PySem.Spec PyProof.Rows
def knownT (T : String) : Prop := T = "tuple" ∨ T = "bool" ∨ T = "int" ∨ T = "str"
theorem DpL.ex {K : PySem.W.Frag} {H : Hp} : ∀ {d : D} {xs : List V}, DpL K H d xs → ∃ ds, d = D.tup ds ∧ Dps K H ds xs
  | .tnil, xs, h => by unfold DpL at h; subst h; exact ⟨[], rfl, .nil⟩
  | .tcons d r, xs, h => by
    unfold DpL at h
    obtain ⟨x, ys, rfl, h1, h2⟩ := h
    obtain ⟨ds, rfl, hd⟩ := DpL.ex h2
    exact ⟨d :: ds, rfl, .cons h1 hd⟩
  | .non, _, h => by unfold DpL at h; exact h.elim
  | .bl _, _, h => by unfold DpL at h; exact h.elim
  | .int _, _, h => by unfold DpL at h; exact h.elim
  | .str _, _, h => by unfold DpL at h; exact h.elim
def D.dep : D → Nat
  | .tcons d r => max (d.dep + 1) r.dep
  | _ => 1
theorem Dps.get {K : PySem.W.Frag} {H : Hp} : ∀ {ds : List D} {vs : List V} {i : Nat} {d : D}, Dps K H ds vs → ds[i]? = some d → ∃ v, vs[i]? = some v ∧ Dp K H d v
  | _, _, _, _, .nil, e => by simp at e
  | _, _, 0, _, .cons r _, e => by simp at e; subst e; exact ⟨_, rfl, r⟩
  | _, _, i + 1, d, .cons _ t, e => by
    obtain ⟨u, h1, h2⟩ := Dps.get (i := i) (d := d) t (by simpa using e)
    exact ⟨u, by simpa using h1, h2⟩
end L2

namespace L2
variable {nk : Nat}
def D.size : D → Nat
  | .tcons d r => d.size + r.size + 1
  | _ => 1
end L2

namespace L2
variable {nk : Nat}
open PySem PySem.Spec PyProof.Rows
end L2
set_option Elab.async false
set_option linter.all false
set_option maxRecDepth 100000
set_option maxHeartbeats 4000000
namespace L2
variable {nk : Nat}
open PySem PySem.Spec PyProof.Rows
structure QE (X : Cx) (e : Expr) (t : TE) : Prop where
  h : PE X e t
structure QS (X : Cx) (s : Stmt) (t : TS) : Prop where
  h : PS X s t
structure QG (X : Cx) (e : Expr) (t : TG) : Prop where
  h : PG X e t
structure QI (X : Cx) (tg it : Expr) (t : TI) : Prop where
  h : PI X tg it t
structure QTs (X : Cx) (es : List Expr) (t : TT) : Prop where
  h : PTs X es t
/-- rules at one operation, wrapped -/
structure ROp (X : Cx) (f : Value → Value → Sem Value) (r : R2) : Prop where
  h : OpR X f r
structure RCall (X : Cx) (f : Value) (r : List V → Hp → VK → Prop) : Prop where
  h : CallR X f r
section
variable {X : Cx} {a b c e o : Expr} {es : List Expr} {ta tb tc te to : TE} {t u : TA} {pos p p2 apos cpos : Pos} {x name : Str} {j : Nat} {tA tB' : TT} {rest : List Expr}
variable {st : Stmt} {sr : List Stmt} {ts us : TS} {g : TG}
variable {tg : Expr}
end
section
variable {X : Cx} {tg iter c : Expr} {body : List Stmt} {wi : TI} {g : TG} {tb : TS} {pos : Pos} {tA : TT}
end
end L2

namespace L2
variable {nk : Nat}
open PySem PySem.Spec PyProof.Rows
end L2

namespace L2
variable {nk : Nat}
open PySem PySem.Spec PyProof.Rows
end L2
set_option Elab.async false
set_option linter.all false
set_option maxRecDepth 100000
set_option maxHeartbeats 4000000
namespace L2
open PySem PySem.Spec PyProof.Rows
def clFrom (env : Env) : List (Str × NameKind) → List (Str × Addr) → List (Str × Addr)
  | [], cs => cs
  | (n, k) :: r, cs => clFrom env r (if k == .free then (n, (env.cells.lookup n).getD 0) :: cs else cs)
theorem clFor {scope : Scope} {env : Env} (h : ∀ x ∈ scope.names, x.2 = .free → ∃ c, env.cells.lookup x.1 = some c) : closureFor scope env = pure (clFrom env scope.names []) := by
  unfold closureFor
  have key : ∀ (ns : List (Str × NameKind)) (cs : List (Str × Addr)), (∀ x ∈ ns, x.2 = .free → ∃ c, env.cells.lookup x.1 = some c) →
      (forIn ns cs fun (x : Str × NameKind) (r : List (Str × Addr)) => if (x.2 == NameKind.free) = true then (do let a ← cellOf env x.1; pure (ForInStep.yield ((x.1, a) :: r))) else (pure (ForInStep.yield r) : Sem _)) = pure (clFrom env ns cs) := by
    intro ns
    induction ns with
    | nil => intro cs _; rfl
    | cons y r ih =>
      intro cs hc
      obtain ⟨n, k⟩ := y
      rw [List.forIn_cons]
      have ihr := fun cs => ih cs fun x hx => hc x (List.mem_cons_of_mem _ hx)
      by_cases hk : (k == NameKind.free) = true
      · obtain ⟨c, e⟩ := hc (n, k) List.mem_cons_self (eq_of_beq hk)
        have e2 : cellOf env n = pure c := by unfold cellOf; rw [e]
        show ((if (k == NameKind.free) = true then _ else _) >>= _) = pure (clFrom env r (if (k == NameKind.free) = true then _ else _))
        rw [if_pos hk, if_pos hk, e2]
        simp only [pure_bind]
        have e3 : (env.cells.lookup n).getD 0 = c := by rw [show env.cells.lookup n = some c from e]; rfl
        rw [e3]
        exact ihr _
      · show ((if (k == NameKind.free) = true then _ else _) >>= _) = pure (clFrom env r (if (k == NameKind.free) = true then _ else _))
        rw [if_neg hk, if_neg hk]
        simp only [pure_bind]
        exact ihr _
  have := key scope.names [] h
  dsimp only
  rw [this]; simp only [pure_bind]
theorem clFrom_ok {env : Env} : ∀ (ns : List (Str × NameKind)) (cs : List (Str × Addr)), (∀ x ∈ ns, x.2 = .free → ∃ c, env.cells.lookup x.1 = some c) → (∀ y ∈ cs, env.cells.lookup y.1 = some y.2) → ∀ y ∈ clFrom env ns cs, env.cells.lookup y.1 = some y.2
  | [], cs, _, h => h
  | (n, k) :: r, cs, hf, h => by
    refine clFrom_ok r _ (fun x hx => hf x (List.mem_cons_of_mem _ hx)) ?_
    by_cases hk : (k == NameKind.free) = true
    · rw [if_pos hk]
      intro y hy
      rcases List.mem_cons.mp hy with rfl | hy
      · obtain ⟨c, e⟩ := hf (n, k) List.mem_cons_self (eq_of_beq hk)
        show env.cells.lookup n = some ((env.cells.lookup n).getD 0)
        rw [show env.cells.lookup n = some c from e]; rfl
      · exact h y hy
    · rw [if_neg hk]; exact h
theorem clFrom_sub {env : Env} : ∀ (ns : List (Str × NameKind)) (cs : List (Str × Addr)) (y : Str × Addr), y ∈ cs → y ∈ clFrom env ns cs
  | [], _, _, h => h
  | (n, k) :: r, cs, y, h => by
    refine clFrom_sub r _ y ?_
    split
    · exact List.mem_cons_of_mem _ h
    · exact h
theorem clFrom_mem {env : Env} : ∀ (ns : List (Str × NameKind)) (cs : List (Str × Addr)) (x : Str), (x, NameKind.free) ∈ ns → ∃ c, (x, c) ∈ clFrom env ns cs
  | [], _, _, h => by simp at h
  | (n, k) :: r, cs, x, h => by
    rcases List.mem_cons.mp h with e | h
    · obtain ⟨e1, e2⟩ := Prod.mk.inj e
      subst e1; subst e2
      exact ⟨_, clFrom_sub r _ (x, _) (by rw [if_pos (by rfl : (NameKind.free == NameKind.free) = true)]; exact List.mem_cons_self)⟩
    · exact clFrom_mem r _ x h
theorem mem_lookup {β : Type} : ∀ {l : List (Str × β)} {x : Str} {b : β}, (x, b) ∈ l → ∃ c, l.lookup x = some c
  | (y, c) :: r, x, b, h => by
    rw [List.lookup_cons]
    cases hx : x == y with
    | true => exact ⟨c, rfl⟩
    | false =>
      rcases List.mem_cons.mp h with e | h
      · cases e; simp at hx
      · exact mem_lookup h
theorem lookup_free {env : Env} {g : Str × NameKind → Bool} : ∀ {names : List (Str × NameKind)} {x : Str}, names.lookup x = some .free →
    (names.map fun y => if g y then (y.1, NameKind.cell) else y).lookup x = some .cell ∨ (names.map fun y => if g y then (y.1, NameKind.cell) else y).lookup x = some .free
  | [], _, h => by simp at h
  | (n, k) :: r, x, h => by
    rw [List.lookup_cons] at h
    rw [List.map_cons]
    have e1 : ∀ y : Str × NameKind, (if g y then (y.1, NameKind.cell) else y).1 = y.1 := fun y => by split <;> rfl
    have e2 : ∀ (y : Str × NameKind) (l : List (Str × NameKind)), (y :: l).lookup x = if (x == y.1) = true then some y.2 else l.lookup x := fun y l => by
      obtain ⟨a, b⟩ := y
      rw [List.lookup_cons]
      cases x == a <;> rfl
    rw [e2, e1]
    cases hx : x == n with
    | true =>
      rw [hx] at h
      cases h
      rw [if_pos rfl]
      by_cases hg : g (n, .free) = true
      · rw [if_pos hg]; exact .inl rfl
      · rw [if_neg hg]; exact .inr rfl
    | false =>
      rw [hx] at h
      rw [if_neg (by exact Bool.false_ne_true)]
      exact lookup_free (env := env) h
/-- what is asked of a block's scope, of its names nm, of the captured slots, of the def's names -/
def capB (dn : List (Str × NameKind)) (sn : List (Str × NameKind)) (nm : List Str) (cap : List (Option Nat)) (N : List Str) : Bool :=
  (sn.all fun x => !(x.2 == .local) || sn.lookup x.1 == some .local) && (sn.all fun y => !(y.2 == .cell)) && (sn.all fun x => !(x.2 == .free) || dn.lookup x.1 == some .cell) && (cap.length == nm.length) &&
  ((List.range cap.length).all fun i => match cap[i]? with
    | some (some j) => (match nm[i]?, N[j]? with
      | some x, some y => x == y && dn.lookup x == some .cell && sn.lookup x == some .free
      | _, _ => false)
    | _ => true)
/-- what a comprehension's block takes over -/
structure CapF (X : Cx) (scope : Scope) (nm : List Str) (cap : List (Option Nat)) : Prop where
  clos : closureFor scope X.env = pure (clFrom X.env scope.names [])
  cl : ∀ x c, (clFrom X.env scope.names []).lookup x = some c → X.env.cells.lookup x = some c
  nms : ∀ x ∈ scope.names, x.2 = .local → scope.names.lookup x.1 = some .local
  cell : ∀ y ∈ scope.names, y.2 ≠ .cell
  has : ∀ x, ((relabel scope X.env).names.lookup x = some .cell ∨ (relabel scope X.env).names.lookup x = some .free) → ∃ c, (clFrom X.env scope.names []).lookup x = some c
  cp : ∀ (i j : Nat), cap[i]? = some (some j) → ∃ x, nm[i]? = some x ∧ X.N[j]? = some x ∧ CapOk X scope (clFrom X.env scope.names []) x
  len : cap.length = nm.length
theorem capF {X : Cx} {scope : Scope} {nm : List Str} {cap : List (Option Nat)} (hf : ∀ x, X.env.scope.names.lookup x = some .cell → ∃ c, X.env.cells.lookup x = some c) (hB : capB X.env.scope.names scope.names nm cap X.N = true) : CapF X scope nm cap := by
  simp only [capB, Bool.and_eq_true, List.all_eq_true, Bool.or_eq_true, Bool.not_eq_true', beq_iff_eq, beq_eq_false_iff_ne] at hB
  obtain ⟨⟨⟨⟨b1, b2⟩, b3⟩, b4⟩, b5⟩ := hB
  have has : ∀ x ∈ scope.names, x.2 = .free → ∃ c, X.env.cells.lookup x.1 = some c := fun x hx hk => by
    rcases b3 x hx with z | z
    · exact absurd hk z
    · exact hf _ z
  have hcl : ∀ x c, (clFrom X.env scope.names []).lookup x = some c → X.env.cells.lookup x = some c := fun x c h => clFrom_ok scope.names [] has (by simp) (x, c) (lookup_mem' h)
  have hin : ∀ x, (x, NameKind.free) ∈ scope.names → ∃ c, (clFrom X.env scope.names []).lookup x = some c := fun x h => let ⟨_, q⟩ := clFrom_mem (env := X.env) scope.names [] x h; mem_lookup q
  have hmap : (relabel scope X.env).names = scope.names.map fun y => if (y.2 == .free && X.env.scope.kind == .function && X.env.kindOf y.1 == some .cell) then (y.1, NameKind.cell) else y := by
    show scope.names.map _ = _
    refine List.map_congr_left fun y _ => ?_
    obtain ⟨a, b⟩ := y
    rfl
  have fr : ∀ x, ((relabel scope X.env).names.lookup x = some .cell ∨ (relabel scope X.env).names.lookup x = some .free) → (x, NameKind.free) ∈ scope.names := fun x h => by
    have h' : ∃ k, (x, k) ∈ (relabel scope X.env).names ∧ (k = .cell ∨ k = .free) := by
      rcases h with h | h
      · exact ⟨_, lookup_mem' h, .inl rfl⟩
      · exact ⟨_, lookup_mem' h, .inr rfl⟩
    obtain ⟨k, hm, hk⟩ := h'
    rw [hmap] at hm
    obtain ⟨y, hy, e⟩ := List.mem_map.mp hm
    obtain ⟨a, b⟩ := y
    by_cases hb : b = .free
    · subst hb
      have : a = x := by split at e <;> (cases e; rfl)
      subst this; exact hy
    · rw [if_neg (by simp [hb])] at e
      cases e
      rcases hk with rfl | rfl
      · exact absurd rfl (b2 _ hy)
      · exact absurd rfl hb
  refine ⟨clFor has, hcl, fun x hx hk => (b1 x hx).resolve_left fun z => z hk, fun y hy => b2 y hy, fun x hx => hin x (fr x hx), fun i j e => ?_, b4⟩
  have hi' : i < cap.length := (List.getElem?_eq_some_iff.mp e).1
  have q := b5 i (List.mem_range.mpr hi')
  rw [e] at q
  dsimp only at q
  cases hx : nm[i]? with
  | none => rw [hx] at q; simp at q
  | some x =>
    cases hy : X.N[j]? with
    | none => rw [hx, hy] at q; simp at q
    | some y =>
      rw [hx, hy] at q
      simp only [Bool.and_eq_true, beq_iff_eq] at q
      obtain ⟨⟨rfl, q1⟩, q2⟩ := q
      refine ⟨x, rfl, rfl, .inr (.inl q1), (by rw [q1]; decide), ?_, ?_⟩
      · obtain ⟨c, hc⟩ := hin x (lookup_mem' q2)
        rw [hc, hcl _ _ hc]
      · rw [hmap]; exact lookup_free (env := X.env) q2
theorem q_comp {X : Cx} {elt tg iter : Expr} {ifs : List Expr} {scope : Scope} {pos : Pos} {nm : List Str} {cap : List (Option Nat)} {wi : TI} {g : TG} {tc : TT} {te : TE} {m : Nat} (hcalm : X.calm = true)
    (hcells : X.env.cells = cellsFrom m X.env.scope.names []) (hkind : scope.kind = .function) (hB : capB X.env.scope.names scope.names nm cap X.N = true)
    (hi : QI X tg iter wi) (hg : ∀ cl C s0 H0 fp, QG (cxComp X nm scope cl C s0 H0 fp) tg g) (ht : ∀ cl C s0 H0 fp, QTs (cxComp X nm scope cl C s0 H0 fp) ifs tc)
    (he : ∀ cl C s0 H0 fp, QE (cxComp X nm scope cl C s0 H0 fp) elt te) (hs : ∀ x, foldedSetIterable iter X.env x = pure x := by intro _; rfl) :
    QE X (.ListComp elt [⟨tg, iter, ifs, 0⟩] scope pos) (tComp cap wi g tc te) := by
  have F := capF (nm := nm) (cap := cap) (fun x z => by rw [hcells]; exact cell_has z) hB
  exact ⟨pe_comp hcalm F.clos F.cl hkind F.nms F.cell F.has F.cp F.len hi.h (fun C s0 H0 fp => (hg _ C s0 H0 fp).h) (fun C s0 H0 fp => (ht _ C s0 H0 fp).h) (fun C s0 H0 fp => (he _ C s0 H0 fp).h) hs⟩
end L2

namespace L2
open PySem PySem.Spec PyProof.Rows
def rSorted (K : PySem.W.Frag) : List V → Hp → VK → Prop := fun xs H Q => ∃ (p : Addr) (ys : List (List Nat)), xs = [.ref p] ∧ SqL K H p (ys.map fun l => V.str (tx l)) ∧ ys.length < 64 ∧
  ∀ zs : List (List Nat), zs.Perm ys → sortedS (zs.map tx) = true → ∀ l H2, H l = none → H2 = upd H l (.lst (zs.map fun l => V.str (tx l))) → Q (.ref l) H2
theorem tx_cpsL (z : Str) : tx z.cps.toList = z := by cases z; rfl
theorem perm_out {vs : List Value} {xs : Array (Value × Value)} (hp : xs.Perm (pairsOf vs)) : ∀ v ∈ (xs.map (·.2)).toList, v ∈ vs := fun v hv => by
  have hl : xs.toList.Perm (vs.zip vs) := by rw [← pairsOf_toList]; exact Array.perm_iff_toList_perm.mp hp
  rw [Array.toList_map] at hv
  obtain ⟨p, hp', rfl⟩ := List.mem_map.mp hv
  have := mem_zip_self (hl.mem_iff.mp hp')
  rw [← this.1]; exact this.2
theorem sorted_strs' {prog : Program} {w : World} {A : Around} {E : Value → Shared → Prop} {s : Shared} {l : Addr} {vs : List Value} {ss : List Str} {Q : Value → Shared → Prop} (hl : s.heap.IsList l vs.toArray) (hS : StrsAre vs ss) (h64 : vs.length < 64)
    (h : ∀ (out : Array Value) (ss' : List Str), (∀ v ∈ out.toList, v ∈ vs) → StrsAre out.toList ss' → ss'.Perm ss → sortedS ss' = true → Q (.ref (s.heap.objs.size + 1)) { s with heap := sortedAll s.heap vs out }) :
    wpAny (model prog w) A (call (.builtin "sorted") [.ref l]) Q E s := by
  refine sortedK strKind_oneLt hl hS.keysOf (fun v₁ v₂ rest e => keyKind_strs (by rw [← e]; exact hS)) h64 fun st' hp hs => ?_
  obtain ⟨ss', h1, h2, h3⟩ := sorted_out_str hS hp hs
  exact h _ ss' (perm_out hp) h1 h2 h3
theorem TkAll.sub {n : Nat} {vs us : List Value} (h : TkAll n vs) (hs : ∀ v ∈ us, v ∈ vs) : TkAll n us := fun x t hx => h x t (hs _ hx)
theorem c_sorted_strs {X : Cx} : RCall X (.builtin "sorted") (rSorted X.K) := ⟨by
  intro pins s σ H xs us Q I r h
  obtain ⟨p, ys, rfl, hS, h64, q⟩ := h
  obtain ⟨u, rfl, ru⟩ := vals1 r
  cases ru
  obtain ⟨its, rv, pl, hz⟩ := I.list hS
  have hl := rv.length
  rw [List.length_map] at hl
  refine sorted_strs' (ss := ys.map tx) pl.isList (strsAre_of (by simpa using rv)) (by omega) fun out ss' hm h1 h2 h3 => ?_
  obtain ⟨ep, hat⟩ := sortedAll_at s.heap its out
  have hfr : H (s.heap.objs.size + 1) = none := I.hok.fresh (Nat.le_succ _)
  have hmap : (ss'.map fun z => z.cps.toList).map tx = ss' := by
    rw [List.map_map]
    have : (tx ∘ fun z : Str => z.cps.toList) = id := funext fun z => tx_cpsL z
    rw [this, List.map_id]
  have hperm : (ss'.map fun z => z.cps.toList).Perm ys := by
    have e := h2.map fun z : Str => z.cps.toList
    rw [List.map_map] at e
    have : ((fun z : Str => z.cps.toList) ∘ tx) = id := funext fun l => by simp [tx]
    rw [this, List.map_id] at e
    exact e
  have hvals : Vals s.toks ((ss'.map fun z => z.cps.toList).map fun l => V.str (tx l)) out.toList := by
    have e := of_strsAre h1 ((tkAll_of rv).sub hm)
    rw [← hmap, List.map_map] at e
    exact e
  refine ⟨.ref (s.heap.objs.size + 1), _, I.laid (t' := s.toks) (fun b o e => sortedAll_old e) (Nat.le_succ _) ?_, rfl, q _ hperm (by rw [hmap]; exact h3) _ _ hfr rfl⟩
  refine ⟨?_, out.toList, ep, hvals, hat⟩
  rw [List.length_map, hperm.length_eq]
  exact Nat.le_trans (Nat.le_of_lt h64) (by decide)⟩

section
variable {prog : Program} {w : World} {A : Around} {E : Value → Shared → Prop} {s : Shared}
end
end L2

namespace L2
open PySem PySem.Spec PyProof.Rows
open AutoSeq1 (wpAny_loadPart')
end L2

namespace L2
open PySem PySem.Spec PyProof.Rows
open AutoSeq1 (wpAny_loadPart')
section
variable {prog : Program} {w : World} {A : Around} {E : Value → Shared → Prop} {s : Shared}
end
section
variable {X : Cx}
end
end L2

namespace L2
open PySem PySem.Spec PyProof.Rows
section
variable {cap : List (Option Nat)} {g : TG} {tc : TT} {te : TE} {σ : St} {H1 : Hp} {Q : VK} {n : Nat}
end
end L2

namespace L2
open PySem PySem.Spec PyProof.Rows
end L2
set_option Elab.async false
set_option linter.all false
set_option maxRecDepth 100000
set_option maxHeartbeats 4000000
namespace L2
open PySem PySem.Spec PyProof.Rows
def byTx (w : World) : Bool := w.params.followText "set-order"
def TabOk (w : World) (n : Nat) (t : SetTable) : Prop := (byTx w = true ∨ t.led = true) ∧ (n = 0 ∨ t.plain = false)
section
variable {prog : Program} {w : World}
/-- the set at a holds just the texts ks -/
def SetT (prog : Program) (w : World) (n : Nat) (h : Heap) (a : Addr) (ks : List Str) : Prop :=
  ∃ o es ep t, h.get? a = some o ∧ o.ExactSet ∧ o.data = .set es ep t ∧ ElemsOf (PySem.strKind prog w) es.toList ∧ (es.toList.map fun e => strOf e.2).Perm ks ∧ es.size < scanBound ∧ t.fits es.size = true ∧ TabOk w es.size t ∧ TkAll n (es.toList.map (·.2))
theorem SetT.keep {n : Nat} {h h' : Heap} {a : Addr} {ks : List Str} (z : SetT prog w n h a ks) (k : ∀ o, h.get? a = some o → h'.get? a = some o) : SetT prog w n h' a ks := let ⟨o, es, ep, t, ho, r⟩ := z; ⟨o, es, ep, t, k o ho, r⟩
theorem TkAll.up {n n' : Nat} {l : List Value} (h : TkAll n l) (hn : n ≤ n') : TkAll n' l := fun x t hx h1 => ⟨(h x t hx h1).1, Nat.lt_of_lt_of_le (h x t hx h1).2 hn⟩
theorem SetT.up {n n' : Nat} {h : Heap} {a : Addr} {ks : List Str} (z : SetT prog w n h a ks) (hn : n ≤ n') : SetT prog w n' h a ks := let ⟨o, es, ep, t, ho, h1, h2, h3, h4, h5, h6, h7, h8⟩ := z; ⟨o, es, ep, t, ho, h1, h2, h3, h4, h5, h6, h7, h8.up hn⟩
variable {A : Around} {E : Value → Shared → Prop} {s : Shared}
end
end L2

namespace L2
open PySem PySem.Spec PyProof.Rows
section
variable {prog : Program} {w : World} {A : Around} {R : Result → Shared → Prop} {I : Addr} {fp wr : List Addr} {n : Nat} {P : Nat → Value → Prop} {St : Nat → Heap → Prop}
end
section
variable {prog : Program} {w : World} {A : Around} {E : Value → Shared → Prop} {s : Shared}
end
end L2
set_option Elab.async false
set_option linter.all false
set_option maxRecDepth 100000
set_option maxHeartbeats 4000000
namespace L2
open PySem PySem.Spec PyProof.Rows
section
variable {M : Model} {A : Around} {E : Value → Shared → Prop}
end
section
variable {prog : Program} {w : World} {A : Around} {E : Value → Shared → Prop} {s : Shared}
/-- the set at S, as it stands -/
structure SetAt (w : World) (h : Heap) (S : Addr) (es : Array (Int × Value)) (ep : Nat) (t : SetTable) : Prop where
  ex : ∃ o, h.get? S = some o ∧ o.ExactSet ∧ o.data = .set es ep t
  fits : t.fits es.size = true
theorem SetAt.keep {h h' : Heap} {S : Addr} {es : Array (Int × Value)} {ep : Nat} {t : SetTable} (z : SetAt w h S es ep t) (k : ∀ o, h.get? S = some o → h'.get? S = some o) : SetAt w h' S es ep t := ⟨let ⟨o, ho, r⟩ := z.ex; ⟨o, k o ho, r⟩, z.fits⟩
end
end L2

namespace L2
open PySem PySem.Spec PyProof.Rows
section
variable {prog : Program} {w : World} {A : Around} {E : Value → Shared → Prop} {s : Shared}
end
end L2
set_option Elab.async false
set_option linter.all false
set_option maxRecDepth 100000
set_option maxHeartbeats 4000000
namespace L2
open PySem PySem.Spec PyProof.Rows
section
variable {prog : Program} {w : World} {A : Around} {E : Value → Shared → Prop} {s : Shared}
end
end L2

namespace L2
open PySem PySem.Spec PyProof.Rows
section
variable {prog : Program} {w : World} {A : Around} {E : Value → Shared → Prop} {s : Shared}
end
end L2

namespace L2
open PySem PySem.Spec PyProof.Rows
section
variable {prog : Program} {w : World} {A : Around} {E : Value → Shared → Prop} {s : Shared}
end
end L2
set_option Elab.async false
set_option linter.all false
set_option maxRecDepth 100000
set_option maxHeartbeats 4000000
namespace L2
variable {nk : Nat}
open PySem PySem.Spec PyProof.Rows
section
variable {prog : Program} {w : World} {A : Around} {E : Value → Shared → Prop} {s : Shared}
end
theorem Inv.kept2 {X : Cx} {pins : List (Addr × Obj)} {σ : St} {H : Hp} {s : Shared} {h' : Heap} {t' : Nat} {d' : Drawn} (I : Inv X pins σ H s) (k : ∀ b o, s.heap.get? b = some o → h'.get? b = some o) (hk : s.toks ≤ t' := by first | exact Nat.le_refl _ | exact Nat.le_succ _ | assumption | omega) : Inv X pins σ H { s with heap := h', drawn := d', toks := t' } :=
  I.step (g' := s.gens) (ch := []) (fun _ z => nomatch z) (fun b o _ _ _ e _ => k b o e) (fun b o _ _ _ e _ => ⟨o.slots, k b o e⟩) (fun _ _ _ _ n => n) (fun b o _ e => ⟨o, k b o e⟩) (fun _ _ e => e) (fun _ _ _ e => e) (fun b ps e => ⟨#[], by rw [e]; simp⟩)
    (fun m hm => let ⟨o, es, ep, ho, r⟩ := hm; ⟨o, es, ep, k _ o ho, r⟩) ((I.hok.kept k).up hk) I.bare hk
end L2
set_option Elab.async false
set_option linter.all false
set_option maxRecDepth 100000
set_option maxHeartbeats 4000000
namespace L2
open PySem PySem.Spec PyProof.Rows
end L2
set_option Elab.async false
set_option linter.all false
set_option maxRecDepth 100000
set_option maxHeartbeats 4000000
namespace L2
open PySem PySem.Spec PyProof.Rows
def IsRevS (h : Heap) (it : Addr) (x : Str) (t : Tok) (i : Int) : Prop := ∃ o, h.get? it = some o ∧ o.cls = .type "reversed" ∧ o.data = .fields #[.str x t, rawInt i]
theorem IsRevS.typeIs {s : Shared} {a : Addr} {x : Str} {t : Tok} {i : Int} (z : IsRevS s.heap a x t i) : s.TypeIs (.ref a) "reversed" := let ⟨o, ho, hc, _⟩ := z; ⟨o, ho, hc⟩
theorem IsRevS.keep {h h' : Heap} {a : Addr} {x : Str} {t : Tok} {i : Int} (z : IsRevS h a x t i) (e : ∀ o, h.get? a = some o → h'.get? a = some o) : IsRevS h' a x t i := let ⟨o, ho, r⟩ := z; ⟨o, e _ ho, r⟩
section
variable {prog : Program} {w : World} {A : Around} {E : Value → Shared → Prop} {s : Shared}
end
end L2
set_option Elab.async false
set_option linter.all false
set_option maxRecDepth 100000
set_option maxHeartbeats 4000000
namespace L2
open PySem PySem.Spec PyProof.Rows
end L2
set_option Elab.async false
set_option linter.all false
set_option maxRecDepth 100000
set_option maxHeartbeats 4000000
namespace L2
open PySem PySem.Spec PyProof.Rows
section
variable {X : Cx} {elt tg iter : Expr} {ifs : List Expr} {scope : Scope} {pos : Pos} {nm : List Str} {cl : List (Str × Addr)} {cap : List (Option Nat)} {wi : TI} {g : TG} {tc : TT} {te : TE}
theorem ps_setComp {x0 : Str} {p0 p1 : Pos} {gx : TG} (hgx : PG X (.Name x0 p0) gx) (hsw : swapsWith (.ListComp elt [⟨tg, iter, ifs, 0⟩] scope pos) (some (.Name x0 p0)) p1.line X.env = pure true) (hcalm : X.calm = true) (hclos : closureFor scope X.env = pure cl) (hcl : ∀ x c, cl.lookup x = some c → X.env.cells.lookup x = some c)
    (hkind : scope.kind = .function) (hnames : ∀ x ∈ scope.names, x.2 = .local → scope.names.lookup x.1 = some .local) (hcell : ∀ y ∈ scope.names, y.2 ≠ .cell)
    (hhas : ∀ x, ((relabel scope X.env).names.lookup x = some .cell ∨ (relabel scope X.env).names.lookup x = some .free) → ∃ c, cl.lookup x = some c)
    (hcap : ∀ (i j : Nat), cap[i]? = some (some j) → ∃ x, nm[i]? = some x ∧ X.N[j]? = some x ∧ CapOk X scope cl x) (hlen : cap.length = nm.length)
    (hi : PI X tg iter wi) (hg : ∀ C s0 H0 fp, PG (cxComp X nm scope cl C s0 H0 fp) tg g) (ht : ∀ C s0 H0 fp, PTs (cxComp X nm scope cl C s0 H0 fp) ifs tc)
    (he : ∀ C s0 H0 fp, PE (cxComp X nm scope cl C s0 H0 fp) elt te) (hs : ∀ x, foldedSetIterable iter X.env x = pure x := by intro _; rfl) :
    PS X (.Assign [.Name x0 p0] (.ListComp elt [⟨tg, iter, ifs, 0⟩] scope pos) p1) (tAsg (tComp cap wi g tc te) gx) := by
  intro pins s σ H D I h
  rw [exec_Assign_Name_used _ _ _ _ hsw]
  suffices main : wpAny (model X.prog X.w) X.A (comprehension (.ListComp elt [⟨tg, iter, ifs, 0⟩] scope pos) scope X.env (firstIterPos [⟨tg, iter, ifs, 0⟩] pos) (newList []) (firstAsync [⟨tg, iter, ifs, 0⟩]) (firstIter [⟨tg, iter, ifs, 0⟩] X.env) (some (assign (.Name x0 p0) X.env))) (fun _ s' => SP X pins D .next s') X.xe s from
    wpAny_bind (wpAny_standAt (wpAny_bind (wpAny_bind (wpAny_mono main (fun _ s' h => wpAny_pure (wpAny_pure h)) fun _ _ z => z))))
  refine comp_core hcalm hclos hcl hkind hnames hcell hhas hcap hlen hi hg ht he hs I h fun s4 C D m4 Hn I4 B q => ?_
  obtain ⟨oC, es, ep, hoC, hdC, hrC⟩ := B.ns
  refine wpAny_mono (hgx _ s4 σ _ (.ref D) (.ref D) _ (I4.pins_of (pins' := pins ++ [(C, oC)]) fun p hp => ?_) rfl q) (fun _ s5 h5 => ?_) fun _ _ z => z
  · rcases List.mem_append.mp hp with z | z
    · exact I4.pin p (List.mem_append_right _ z)
    · have e : p = (C, oC) := by simpa using z
      subst e
      exact ⟨hoC, B.fr, B.nl, B.nf, fun v z => by rw [hdC] at z; cases z⟩
  obtain ⟨σ', H', I6, nx⟩ := h5
  have pC := I6.pin (C, oC) (List.mem_append_right _ (List.mem_append_right _ (List.mem_singleton.mpr rfl)))
  have I7 : Inv X pins σ' H' s5 := I6.pins_of fun p hp => I6.pin p (List.mem_append_right _ (List.mem_append_left _ hp))
  have B7 : BlkAt X pins H' s5 C m4 := ⟨⟨oC, es, ep, pC.1, hdC, hrC⟩, pC.2.1, B.nl, B.nf, B.hi, B.nc, B.np⟩
  exact ⟨m4, B7.ns, fun h' hs' => ⟨σ', H', B7.off I7 hs', nx⟩⟩
end
theorem qs_setComp {X : Cx} {x0 : Str} {p0 p1 : Pos} {gx : TG} {elt tg iter : Expr} {ifs : List Expr} {scope : Scope} {pos : Pos} {nm : List Str} {cap : List (Option Nat)} {wi : TI} {g : TG} {tc : TT} {te : TE} {m : Nat} (hgx : QG X (.Name x0 p0) gx) (hcalm : X.calm = true)
    (hcells : X.env.cells = cellsFrom m X.env.scope.names []) (hkind : scope.kind = .function) (hB : capB X.env.scope.names scope.names nm cap X.N = true)
    (hi : QI X tg iter wi) (hg : ∀ cl C s0 H0 fp, QG (cxComp X nm scope cl C s0 H0 fp) tg g) (ht : ∀ cl C s0 H0 fp, QTs (cxComp X nm scope cl C s0 H0 fp) ifs tc)
    (he : ∀ cl C s0 H0 fp, QE (cxComp X nm scope cl C s0 H0 fp) elt te) (hs : ∀ x, foldedSetIterable iter X.env x = pure x := by intro _; rfl) (hsw : swapsWith (.ListComp elt [⟨tg, iter, ifs, 0⟩] scope pos) (some (.Name x0 p0)) p1.line X.env = pure true := by first | rfl | kernel_rfl) :
    QS X (.Assign [.Name x0 p0] (.ListComp elt [⟨tg, iter, ifs, 0⟩] scope pos) p1) (tAsg (tComp cap wi g tc te) gx) := by
  have F := capF (nm := nm) (cap := cap) (fun x z => by rw [hcells]; exact cell_has z) hB
  exact ⟨ps_setComp hgx.h hsw hcalm F.clos F.cl hkind F.nms F.cell F.has F.cp F.len hi.h (fun C s0 H0 fp => (hg _ C s0 H0 fp).h) (fun C s0 H0 fp => (ht _ C s0 H0 fp).h) (fun C s0 H0 fp => (he _ C s0 H0 fp).h) hs⟩
end L2
set_option Elab.async false
set_option linter.all false
set_option maxRecDepth 100000
set_option maxHeartbeats 4000000
namespace L2
open PySem PySem.Spec PyProof.Rows
end L2

namespace L2
open PySem PySem.Spec PyProof.Rows
open AutoSeq1 (wpAny_loadPart')
theorem add_none (l b : Addr) (i1 i2 : Array Value) (n1 n2 : Nat) (d1 d2 : Option Addr) (s1 s2 : Array (Option Value)) (h0 : i1.isEmpty = true) :
    Meets (Builtin.«tuple.__add__» ⟨[.ref l, .ref b], []⟩) (fun _ R s => s.heap.get? l = some { cls := .type "tuple", dict := d1, data := .seq i1 n1, slots := s1 } ∧ s.heap.get? b = some { cls := .type "tuple", dict := d2, data := .seq i2 n2, slots := s2 } ∧ R (.ok (.ret (.ref b))) s) :=
  .of_wp fun prog w A R s h => by
    obtain ⟨hp, g, d, tk, os⟩ := s
    obtain ⟨e1, e2, h⟩ := h
    have a2 := PyProof.Rows.sub_tuple_tuple
    wp_walk using wpAny_loadPart' e1, wpAny_loadPart' e2
    exact ⟨_, rfl, h⟩
def rCatA (K : PySem.W.Frag) : R2 := fun x y H Q => ∃ a b xs ys, x = .ref a ∧ y = .ref b ∧ SqT K H a xs ∧ SqT K H b ys ∧ xs.length + ys.length ≤ sizeLine ∧ ∀ p H2, Same H H2 → SqT K H2 p (xs ++ ys) → Q (.ref p) H2
theorem o_catA {X : Cx} : ROp X (binaryOp .Add) (rCatA X.K) := ⟨by
  intro pins s σ H x y v u Q I rx ry h
  obtain ⟨a, b, xs, ys, rfl, rfl, ha, hb, hz, q⟩ := h
  by_cases hx : xs = []
  · subst hx
    cases rx
    cases ry
    obtain ⟨its, r1, p1, _⟩ := I.tuple ha
    obtain ⟨its2, r2, p2, _⟩ := I.tuple hb
    have e1 : its = [] := r1.nil_iff.mpr rfl
    obtain ⟨⟨c1, d1, g1, l1⟩, f1, hc1, n1, hd1⟩ := id p1
    obtain ⟨⟨c2, d2, g2, l2⟩, f2, hc2, n2, hd2⟩ := id p2
    simp only at hc1 hd1 hc2 hd2
    subst hc1 hd1 hc2 hd2
    refine concat_meets ⟨_, f1, rfl⟩ ⟨_, f2, rfl⟩ noFill_tuple_add seq_tuple_add PySem.F.slot_tuple_add PySem.F.entry_tuple_add (PySem.F.args_tuple_add_2 _ _) (add_none a b its.toArray its2.toArray n1 n2 d1 d2 l1 l2 (by rw [e1]; rfl)) ⟨f1, f2, ?_⟩
    exact ⟨.ref b, H, I, rfl, q b H (Same.refl H) hb⟩
  · exact op_catT pins s σ H _ _ v u Q I rx ry ⟨a, b, xs, ys, rfl, rfl, ha, hb, hx, hz, fun e => q a H (Same.refl H) (by rw [e, List.append_nil]; exact ha), fun _ p hp => q p _ (same_new hp _) (SqT.of upd_same)⟩⟩
end L2
set_option Elab.async false
set_option linter.all false
set_option maxRecDepth 100000
set_option maxHeartbeats 4000000
namespace L2
variable {nk : Nat}
open PySem PySem.Spec PyProof.Rows

inductive W where
  | non | bl (b : Bool) | int (i : Int) | str (l : List Nat) | tup (ws : List W) | loc (n : Nat)
/-- a dict's key -/
inductive DK where
  | i (z : Int) | s (l : List Nat)
deriving DecidableEq
def DK.key : DK → Key
  | .i z => .inl z
  | .s l => .inr (tx l)
/-- a key that is a truth, a tuple of ints, or a pair of an int and a tuple of ints -/
inductive KX where
  | bo (b : Bool) | fl (ks : List Int) | pr (i : Int) (ks : List Int)
deriving DecidableEq
def KX.w : KX → W
  | .bo b => .bl b
  | .fl ks => .tup (ks.map W.int)
  | .pr i ks => .tup [.int i, .tup (ks.map W.int)]
def flHash (ks : List Int) : Int := reduceHash (Builtin.Tuple.tupleHashOf (ks.map hashInt))
def KX.hash : KX → Int
  | .bo b => hashInt (if b then 1 else 0)
  | .fl ks => flHash ks
  | .pr i ks => reduceHash (Builtin.Tuple.tupleHashOf [hashInt i, flHash ks])
inductive Cell where
  | lst (ws : List W)
  | ro (ws : List W)
  | exc (c : Str)
  | dct (kvs : List (DK × W))
  | tab (P : Addr) (pos : Pos) (q : Str)
  | rod (kvs : List (DK × W))
  | dcx (kvs : List (KX × W))
  | rox (kvs : List (KX × W))
  | obj (c : Str) (fs : List (Str × W))
  | pin (k : Bool) (c : Addr) (o : Obj) (w : W)
  | gone
abbrev LIM : Nat := 1000000
theorem lim_le {n : Nat} (h : n ≤ LIM) : n ≤ sizeLine := Nat.le_trans h (by decide)
theorem lim_lt {n : Nat} (h : n ≤ LIM) : n < sizeLine := Nat.lt_of_le_of_lt h (by decide)
/-- what a part of the code comes to: a value and the cells, an exception of a class, or nothing is said -/
inductive R (α : Type) where
  | ok (a : α) (st : List Cell)
  | ex (c : Str) (st : List Cell)
  | bad
def R.bind {α β : Type} : R α → (α → List Cell → R β) → R β
  | .ok a st, k => k a st
  | .ex c st, _ => .ex c st
  | .bad, _ => .bad
@[simp] theorem R.bind_ok {α β : Type} (a : α) (st : List Cell) (k : α → List Cell → R β) : (R.ok a st).bind k = k a st := rfl
@[simp] theorem R.bind_ex {α β : Type} (c : Str) (st : List Cell) (k : α → List Cell → R β) : (R.ex c st : R α).bind k = .ex c st := rfl
@[simp] theorem R.bind_bad {α β : Type} (k : α → List Cell → R β) : (R.bad : R α).bind k = .bad := rfl
abbrev EnvW := List (Option W)
inductive RS where
  | nx (ρ : EnvW) (st : List Cell) | rt (w : W) (st : List Cell) | bk (ρ : EnvW) (st : List Cell) | ct (ρ : EnvW) (st : List Cell)
  | ex (c : Str) (ρ : EnvW) (st : List Cell) | bad
abbrev FE := EnvW → List Cell → R W
abbrev FT := EnvW → List Cell → R Bool
abbrev FA := EnvW → List Cell → R (List W)
abbrev FS := EnvW → List Cell → RS

section
variable (K : PySem.W.Frag)
mutual
def RelW (μ : List Addr) (H : Hp) : W → V → Prop
  | .non, v => v = .non
  | .bl b, v => v = .bl b
  | .int i, v => v = .int i
  | .str l, v => v = .str (tx l)
  | .tup ws, v => ∃ p vs, v = .ref p ∧ SqT K H p vs ∧ RelWs μ H ws vs
  | .loc n, v => ∃ a, μ[n]? = some a ∧ v = .ref a
def RelWs (μ : List Addr) (H : Hp) : List W → List V → Prop
  | [], vs => vs = []
  | w :: ws, vs => ∃ x xs, vs = x :: xs ∧ RelW μ H w x ∧ RelWs μ H ws xs
end
end
theorem pre_get {μ μ' : List Addr} (h : μ <+: μ') {n : Nat} {a : Addr} (e : μ[n]? = some a) : μ'[n]? = some a := by
  obtain ⟨t, rfl⟩ := h
  rw [List.getElem?_append_left (List.getElem?_eq_some_iff.mp e).1]; exact e
section
variable {K : PySem.W.Frag} {μ μ' : List Addr} {H H' : Hp}
mutual
theorem RelW.mono (h : μ <+: μ') (e : Ext K H H') : ∀ {w : W} {v : V}, RelW K μ H w v → RelW K μ' H' w v
  | .non, _, r => by unfold RelW at r ⊢; exact r
  | .bl _, _, r => by unfold RelW at r ⊢; exact r
  | .int _, _, r => by unfold RelW at r ⊢; exact r
  | .str _, _, r => by unfold RelW at r ⊢; exact r
  | .tup _, _, r => by unfold RelW at r ⊢; obtain ⟨p, vs, a, b, c⟩ := r; exact ⟨p, vs, a, e _ _ b, RelWs.mono h e c⟩
  | .loc _, _, r => by unfold RelW at r ⊢; obtain ⟨a, b, c⟩ := r; exact ⟨a, pre_get h b, c⟩
theorem RelWs.mono (h : μ <+: μ') (e : Ext K H H') : ∀ {ws : List W} {vs : List V}, RelWs K μ H ws vs → RelWs K μ' H' ws vs
  | [], _, r => by unfold RelWs at r ⊢; exact r
  | _ :: _, _, r => by unfold RelWs at r ⊢; obtain ⟨x, xs, a, b, c⟩ := r; exact ⟨x, xs, a, RelW.mono h e b, RelWs.mono h e c⟩
end
theorem RelWs.nilI : RelWs K μ H [] [] := by unfold RelWs; rfl
theorem RelWs.consI {w : W} {ws : List W} {x : V} {xs : List V} (a : RelW K μ H w x) (b : RelWs K μ H ws xs) : RelWs K μ H (w :: ws) (x :: xs) := by unfold RelWs; exact ⟨x, xs, rfl, a, b⟩
theorem RelWs.nilE {vs : List V} (h : RelWs K μ H [] vs) : vs = [] := by unfold RelWs at h; exact h
theorem RelWs.consE {w : W} {ws : List W} {vs : List V} (h : RelWs K μ H (w :: ws) vs) : ∃ x xs, vs = x :: xs ∧ RelW K μ H w x ∧ RelWs K μ H ws xs := by unfold RelWs at h; exact h
theorem RelWs.pr : ∀ {ws : List W} {vs : List V}, RelWs K μ H ws vs ↔ Paired (fun w v => RelW K μ H w v) ws vs
  | [], vs => ⟨fun h => by rw [h.nilE]; exact .nil, fun h => by cases h; exact .nilI⟩
  | w :: ws, vs => ⟨fun h => by obtain ⟨x, xs, rfl, a, b⟩ := h.consE; exact .cons a (RelWs.pr.mp b), fun h => by cases h with | cons a b => exact .consI a (RelWs.pr.mpr b)⟩
theorem RelWs.len {ws : List W} {vs : List V} (h : RelWs K μ H ws vs) : ws.length = vs.length := Paired.length (RelWs.pr.mp h)
theorem RelWs.app : ∀ {as : List W} {xs : List V} {bs : List W} {ys : List V}, RelWs K μ H as xs → RelWs K μ H bs ys → RelWs K μ H (as ++ bs) (xs ++ ys)
  | [], xs, bs, ys, a, b => by rw [a.nilE]; exact b
  | w :: as, xs, bs, ys, a, b => by obtain ⟨x, xs, rfl, c, d⟩ := a.consE; exact .consI c (RelWs.app d b)
theorem RelWs.get : ∀ {ws : List W} {vs : List V} {i : Nat} {w : W}, RelWs K μ H ws vs → ws[i]? = some w → ∃ v, vs[i]? = some v ∧ RelW K μ H w v
  | [], _, _, _, _, e => by simp at e
  | x :: ws, vs, 0, w, h, e => by obtain ⟨y, ys, rfl, a, b⟩ := h.consE; simp at e; subst e; exact ⟨y, rfl, a⟩
  | x :: ws, vs, i + 1, w, h, e => by obtain ⟨y, ys, rfl, a, b⟩ := h.consE; simpa using RelWs.get (i := i) b (by simpa using e)
theorem RelWs.take : ∀ {ws : List W} {vs : List V} (n : Nat), RelWs K μ H ws vs → RelWs K μ H (ws.take n) (vs.take n)
  | _, _, 0, _ => by simp only [List.take_zero]; exact .nilI
  | [], vs, n + 1, h => by rw [h.nilE]; exact .nilI
  | x :: ws, vs, n + 1, h => by obtain ⟨y, ys, rfl, a, b⟩ := h.consE; exact .consI a (RelWs.take n b)
theorem RelWs.drop : ∀ {ws : List W} {vs : List V} (n : Nat), RelWs K μ H ws vs → RelWs K μ H (ws.drop n) (vs.drop n)
  | _, _, 0, h => h
  | [], vs, n + 1, h => by rw [h.nilE]; exact .nilI
  | x :: ws, vs, n + 1, h => by obtain ⟨y, ys, rfl, a, b⟩ := h.consE; exact RelWs.drop n b
theorem RelW.intE {i : Int} {v : V} (h : RelW K μ H (.int i) v) : v = .int i := by unfold RelW at h; exact h
theorem RelW.blE {b : Bool} {v : V} (h : RelW K μ H (.bl b) v) : v = .bl b := by unfold RelW at h; exact h
theorem RelW.nonE {v : V} (h : RelW K μ H .non v) : v = .non := by unfold RelW at h; exact h
theorem RelW.strE {l : List Nat} {v : V} (h : RelW K μ H (.str l) v) : v = .str (tx l) := by unfold RelW at h; exact h
theorem RelW.tupE {ws : List W} {v : V} (h : RelW K μ H (.tup ws) v) : ∃ p vs, v = .ref p ∧ SqT K H p vs ∧ RelWs K μ H ws vs := by unfold RelW at h; exact h
theorem RelW.locE {n : Nat} {v : V} (h : RelW K μ H (.loc n) v) : ∃ a, μ[n]? = some a ∧ v = .ref a := by unfold RelW at h; exact h
theorem RelW.int {i : Int} : RelW K μ H (.int i) (.int i) := by unfold RelW; rfl
theorem RelW.bl {i : Bool} : RelW K μ H (.bl i) (.bl i) := by unfold RelW; rfl
theorem RelW.non : RelW K μ H .non .non := by unfold RelW; rfl
theorem RelW.str {l : List Nat} : RelW K μ H (.str l) (.str (tx l)) := by unfold RelW; rfl
theorem RelW.tupI {ws : List W} {p : Addr} {vs : List V} (a : SqT K H p vs) (b : RelWs K μ H ws vs) : RelW K μ H (.tup ws) (.ref p) := by unfold RelW; exact ⟨p, vs, rfl, a, b⟩
theorem RelW.locI {n : Nat} {a : Addr} (e : μ[n]? = some a) : RelW K μ H (.loc n) (.ref a) := by unfold RelW; exact ⟨a, e, rfl⟩
end

/-- an exception of the class at C, caught -/
def excAt (a : Addr) (C : Value) : HO := .ext fun h => ∃ o vs, h.get? a = some o ∧ o.cls = C ∧ o.data = .fields vs
/-- a code object of that name -/
def codeH (b : Addr) (q : Str) : HO := .ext fun h => ∃ o vs t, h.get? b = some o ∧ o.data = .fields vs ∧ vs[1]? = some (.str q t)
/-- a list that never changes -/
def RoL (K : PySem.W.Frag) (H : Hp) (a : Addr) (xs : List V) : Prop :=
  (∃ o, H a = some (.frz o (.lst xs))) ∨ ∃ (o : Obj) (its : Array Value) (n : Nat), K.lookup a = some o ∧ o.cls = .type "list" ∧ o.dict = none ∧ o.data = .seq its n ∧ its.size ≤ sizeLine ∧ Vals 0 xs its.toList
theorem RoL.sq {K : PySem.W.Frag} {H : Hp} {a : Addr} {xs : List V} (h : RoL K H a xs) : SqL K H a xs := by
  rcases h with ⟨o, h⟩ | h
  · exact .inl (.inr ⟨o, h⟩)
  · exact .inr h
def Cell.isRo : Cell → Bool
  | .ro _ => true
  | .gone => true
  | _ => false
/-- a dict object with those entries -/
def DX (a : Addr) (es : List DictEntry) : Heap → Prop := fun h => ∃ o ep, h.get? a = some o ∧ o.ExactDict ∧ o.data = .dict es.toArray ep
abbrev dxO (a : Addr) (es : List DictEntry) : HO := .ext (DX a es)
def EntR (K : PySem.W.Frag) (μ : List Addr) (H : Hp) (p : KX × W) (e : DictEntry) : Prop := e.hash = p.1.hash ∧ (∃ v, RelW K μ H p.1.w v ∧ RelV 0 v e.key) ∧ ∃ v, RelW K μ H p.2 v ∧ RelV 0 v e.val
/-- an object that stays as it is: a function, a closure's cell -/
def objO (a : Addr) (o : Obj) : HO := .ext fun h => h.get? a = some o
def CellR (K : PySem.W.Frag) (mg : Str → Option Value) (μ : List Addr) (H : Hp) : Cell → Addr → Prop
  | .lst ws, a => ∃ vs, H a = some (.lst vs) ∧ RelWs K μ H ws vs
  | .ro ws, a => ∃ vs, RoL K H a vs ∧ RelWs K μ H ws vs
  | .exc c, a => ∃ C, mg c = some C ∧ H a = some (excAt a C)
  | .dct kvs, a => ∃ vs, H a = some (.dK ((kvs.map fun p => p.1.key).zip vs)) ∧ RelWs K μ H (kvs.map fun p => p.2) vs
  | .rod kvs, a => ∃ vs o, H a = some (.frz o (.dK ((kvs.map fun p => p.1.key).zip vs))) ∧ RelWs K μ H (kvs.map fun p => p.2) vs
  | .dcx kvs, a => ∃ es, H a = some (dxO a es) ∧ (a == sysModules) = false ∧ Paired (EntR K μ H) kvs es ∧ (kvs.map fun p => p.1).Nodup
  | .rox kvs, a => ∃ es o, H a = some (.frz o (dxO a es)) ∧ (a == sysModules) = false ∧ Paired (EntR K μ H) kvs es ∧ (kvs.map fun p => p.1).Nodup
  | .obj c fs, a => ∃ C dx vs, mg c = some (.ref C) ∧ H a = some (.ins C dx ((fs.map fun p => p.1).zip vs)) ∧ RelWs K μ H (fs.map fun p => p.2) vs
  | .tab P pos q, a => a = P ∧ ∃ ps, H a = some (.tbl ps) ∧ TriplesOk ps.toList ∧ (codeAmong pos ps.toList = none ∨ ∃ c, codeAmong pos ps.toList = some (.ref c) ∧ H c = some (codeH c q))
  | .pin k c o w, a => a = c ∧ H a = some (objO a o) ∧ (k = false → ∃ fd cd, o.data = .func fd ∧ fd.code = .ref cd ∧ H cd = some (codeH cd fd.qualname)) ∧ ∃ v, RelW K μ H w v ∧ (k = true → ∃ u, o.data = .cell (some u) ∧ RelV 0 v u)
  | .gone, _ => True
structure StR (K : PySem.W.Frag) (mg : Str → Option Value) (μ : List Addr) (st : List Cell) (H : Hp) : Prop where
  nd : ∀ (i j : Nat) (a : Addr) (ci cj : Cell), st[i]? = some ci → st[j]? = some cj → ci.isRo = false → cj.isRo = false → μ[i]? = some a → μ[j]? = some a → i = j
  len : st.length = μ.length
  at' : ∀ (i : Nat) (c : Cell) (a : Addr), st[i]? = some c → μ[i]? = some a → CellR K mg μ H c a
section
variable {K : PySem.W.Frag} {mg : Str → Option Value} {μ μ' : List Addr} {H H' : Hp} {st : List Cell}
theorem EntR.mono (h : μ <+: μ') (x : Ext K H H') {p : KX × W} {e : DictEntry} (r : EntR K μ H p e) : EntR K μ' H' p e := by
  obtain ⟨a, ⟨v, b, c⟩, u, d, g⟩ := r
  exact ⟨a, ⟨v, b.mono h x, c⟩, u, d.mono h x, g⟩
/-- a cell stands as long as its own object and the tuples do -/
theorem CellR.keep (h : μ <+: μ') (x : Ext K H H') {c : Cell} {a : Addr} (e : ∀ o, H a = some o → H' a = some o) (e2 : ∀ b q, H b = some (codeH b q) → H' b = some (codeH b q)) (r : CellR K mg μ H c a) : CellR K mg μ' H' c a := by
  cases c with
  | lst ws => obtain ⟨vs, p, y⟩ := r; exact ⟨vs, e _ p, y.mono h x⟩
  | ro ws =>
    obtain ⟨vs, p, y⟩ := r
    refine ⟨vs, ?_, y.mono h x⟩
    rcases p with ⟨o, p⟩ | p
    · exact .inl ⟨o, e _ p⟩
    · exact .inr p
  | exc c => obtain ⟨C, p, y⟩ := r; exact ⟨C, p, e _ y⟩
  | dct kvs => obtain ⟨vs, p, y⟩ := r; exact ⟨vs, e _ p, y.mono h x⟩
  | rod kvs => obtain ⟨vs, o, p, y⟩ := r; exact ⟨vs, o, e _ p, y.mono h x⟩
  | dcx kvs => obtain ⟨es, p, d, y, z⟩ := r; exact ⟨es, e _ p, d, Paired.imp' (fun _ _ q => q.mono h x) y, z⟩
  | rox kvs => obtain ⟨es, o, p, d, y, z⟩ := r; exact ⟨es, o, e _ p, d, Paired.imp' (fun _ _ q => q.mono h x) y, z⟩
  | obj c fs => obtain ⟨C, dx, vs, m, p, y⟩ := r; exact ⟨C, dx, vs, m, e _ p, y.mono h x⟩
  | tab P pos q =>
    obtain ⟨ea, ps, p, t, y⟩ := r
    refine ⟨ea, ps, e _ p, t, ?_⟩
    rcases y with y | ⟨c, y, z⟩
    · exact .inl y
    · exact .inr ⟨c, y, e2 _ _ z⟩
  | pin k c o w => obtain ⟨ea, p, g, v, y, z⟩ := r; exact ⟨ea, e _ p, fun q => let ⟨fd, cd, q1, q2, q3⟩ := g q; ⟨fd, cd, q1, q2, e2 _ _ q3⟩, v, y.mono h x, z⟩
  | gone => trivial
theorem CellR.ro_ne {c : Cell} {a : Addr} (r : CellR K mg μ H c a) (h : c.isRo = false) : ∃ o, H a = some o := by
  cases c with
  | lst ws => obtain ⟨vs, p, y⟩ := r; exact ⟨_, p⟩
  | ro ws => cases h
  | exc c => obtain ⟨C, p, y⟩ := r; exact ⟨_, y⟩
  | dct kvs => obtain ⟨vs, p, y⟩ := r; exact ⟨_, p⟩
  | rod kvs => obtain ⟨vs, o, p, y⟩ := r; exact ⟨_, p⟩
  | dcx kvs => obtain ⟨es, p, _⟩ := r; exact ⟨_, p⟩
  | rox kvs => obtain ⟨es, o, p, _⟩ := r; exact ⟨_, p⟩
  | obj c fs => obtain ⟨C, dx, vs, m, p, y⟩ := r; exact ⟨_, p⟩
  | tab P pos q => obtain ⟨_, ps, p, _⟩ := r; exact ⟨_, p⟩
  | pin k c o w => obtain ⟨_, p, _⟩ := r; exact ⟨_, p⟩
  | gone => cases h
theorem StR.same (S : StR K mg μ st H) (e : Same H H') : StR K mg μ st H' := ⟨S.nd, S.len, fun i c a h1 h2 => (S.at' i c a h1 h2).keep (List.prefix_refl _) (SqT.same e) (e a) fun b q h => e b _ h⟩
theorem StR.get (S : StR K mg μ st H) {n : Nat} {c : Cell} (h : st[n]? = some c) : ∃ a, μ[n]? = some a ∧ CellR K mg μ H c a := by
  have hn : n < μ.length := by rw [← S.len]; exact (List.getElem?_eq_some_iff.mp h).1
  exact ⟨μ[n], List.getElem?_eq_getElem hn, S.at' n c _ h (List.getElem?_eq_getElem hn)⟩
/-- a new cell -/
theorem StR.push (S : StR K mg μ st H) {p : Addr} {o : HO} {c : Cell} (hp : H p = none) (hc : CellR K mg (μ ++ [p]) (upd H p o) c p) : StR K mg (μ ++ [p]) (st ++ [c]) (upd H p o) := by
  have hs : Same H (upd H p o) := same_new hp o
  have hpre : μ <+: μ ++ [p] := List.prefix_append _ _
  have old : ∀ {i : Nat} {d : Cell} {a : Addr}, i < st.length → (st ++ [c])[i]? = some d → (μ ++ [p])[i]? = some a → st[i]? = some d ∧ μ[i]? = some a := fun {i d a} hi h1 h2 => by
    rw [List.getElem?_append_left hi] at h1
    rw [List.getElem?_append_left (by rw [← S.len]; exact hi)] at h2
    exact ⟨h1, h2⟩
  have new : ∀ {i : Nat} {d : Cell} {a : Addr}, ¬ i < st.length → (st ++ [c])[i]? = some d → (μ ++ [p])[i]? = some a → i = st.length ∧ d = c ∧ a = p := fun {i d a} hi h1 h2 => by
    have hi' : i = st.length := by
      have := (List.getElem?_eq_some_iff.mp h1).1
      simp at this; omega
    subst hi'
    simp at h1
    rw [S.len, List.getElem?_append_right (Nat.le_refl _)] at h2
    simp at h2
    exact ⟨rfl, h1.symm, h2.symm⟩
  refine ⟨fun i j a ci cj h1 h2 r1 r2 m1 m2 => ?_, by simp [S.len], fun i d a h1 h2 => ?_⟩
  · by_cases hi : i < st.length
    · obtain ⟨x1, x2⟩ := old hi h1 m1
      by_cases hj : j < st.length
      · obtain ⟨y1, y2⟩ := old hj h2 m2
        exact S.nd i j a ci cj x1 y1 r1 r2 x2 y2
      · obtain ⟨_, _, rfl⟩ := new hj h2 m2
        obtain ⟨o', z⟩ := (S.at' i ci a x1 x2).ro_ne r1
        rw [hp] at z; cases z
    · obtain ⟨e1, _, rfl⟩ := new hi h1 m1
      by_cases hj : j < st.length
      · obtain ⟨y1, y2⟩ := old hj h2 m2
        obtain ⟨o', z⟩ := (S.at' j cj a y1 y2).ro_ne r2
        rw [hp] at z; cases z
      · obtain ⟨e2, _, _⟩ := new hj h2 m2
        omega
  · by_cases hi : i < st.length
    · obtain ⟨x1, x2⟩ := old hi h1 h2
      exact (S.at' i d a x1 x2).keep hpre (SqT.same hs) (hs a) fun b q h => hs b _ h
    · obtain ⟨_, rfl, rfl⟩ := new hi h1 h2
      exact hc
/-- a list's cell written -/
theorem StR.set (S : StR K mg μ st H) {n : Nat} {a : Addr} {ws ws' : List W} {vs vs' : List V} (hn : st[n]? = some (.lst ws)) (hm : μ[n]? = some a) (ha : H a = some (.lst vs)) (hr : RelWs K μ H ws' vs') : StR K mg μ (st.set n (.lst ws')) (upd H a (.lst vs')) := by
  have hx : Ext K H (upd H a (.lst vs')) := SqT.but but_upd ha
  have hl : n < st.length := (List.getElem?_eq_some_iff.mp hn).1
  have back : ∀ {i : Nat} {d : Cell}, (st.set n (.lst ws'))[i]? = some d → ∃ d', st[i]? = some d' ∧ (d' = d ∨ (i = n ∧ d = .lst ws')) := fun {i d} h => by
    by_cases e : i = n
    · subst e
      rw [List.getElem?_set_self hl] at h
      exact ⟨_, hn, .inr ⟨rfl, (Option.some.inj h).symm⟩⟩
    · rw [List.getElem?_set_ne (Ne.symm e)] at h
      exact ⟨d, h, .inl rfl⟩
  refine ⟨fun i j b ci cj h1 h2 r1 r2 m1 m2 => ?_, by simp [S.len], fun i d b h1 h2 => ?_⟩
  · obtain ⟨di, x1, y1⟩ := back h1
    obtain ⟨dj, x2, y2⟩ := back h2
    refine S.nd i j b di dj x1 x2 ?_ ?_ m1 m2
    · rcases y1 with rfl | ⟨rfl, rfl⟩
      · exact r1
      · rw [hn] at x1; cases x1; rfl
    · rcases y2 with rfl | ⟨rfl, rfl⟩
      · exact r2
      · rw [hn] at x2; cases x2; rfl
  · by_cases e : i = n
    · subst e
      rw [List.getElem?_set_self hl] at h1
      cases h1
      rw [hm] at h2; cases h2
      exact ⟨vs', upd_same, hr.mono (List.prefix_refl _) hx⟩
    · rw [List.getElem?_set_ne (Ne.symm e)] at h1
      have r := S.at' i d b h1 h2
      by_cases hro : d.isRo = true
      · cases d with
        | ro zs =>
          obtain ⟨us, p, q⟩ := r
          refine ⟨us, ?_, q.mono (List.prefix_refl _) hx⟩
          rcases p with ⟨o', p⟩ | p
          · exact .inl ⟨o', by rw [upd_ne (by rintro rfl; rw [ha] at p; cases p)]; exact p⟩
          · exact .inr p
        | lst _ => cases hro
        | exc _ => cases hro
        | dct _ => cases hro
        | rod _ => cases hro
        | dcx _ => cases hro
        | rox _ => cases hro
        | obj _ _ => cases hro
        | tab _ _ _ => cases hro
        | pin _ _ _ _ => cases hro
        | gone => trivial
      · refine r.keep (List.prefix_refl _) hx (fun o ho => ?_) fun b' q h => by rw [upd_ne (by rintro rfl; rw [ha] at h; cases h)]; exact h
        have hb : b ≠ a := by
          rintro rfl
          exact e (S.nd i n b d _ h1 hn (by simpa using hro) rfl h2 hm)
        rw [upd_ne hb]; exact ho
end
end L2
set_option Elab.async false
set_option linter.all false
set_option maxRecDepth 100000
set_option maxHeartbeats 4000000
namespace L2
variable {nk : Nat}
open PySem PySem.Spec PyProof.Rows

structure Rl (X : Cx) (μ : List Addr) (ρ : EnvW) (st : List Cell) (σ : St) (H : Hp) : Prop where
  env : Paired (fun (o : Option W) (s : Option V) => ∀ w, o = some w → ∃ v, s = some v ∧ RelW X.K μ H w v) ρ σ
  sto : StR X.K X.mg μ st H
theorem envR_mono {K : PySem.W.Frag} {μ μ' : List Addr} {H H' : Hp} (h : μ <+: μ') (x : Ext K H H') : ∀ {ρ : EnvW} {σ : St}, Paired (fun (o : Option W) (s : Option V) => ∀ w, o = some w → ∃ v, s = some v ∧ RelW K μ H w v) ρ σ →
    Paired (fun (o : Option W) (s : Option V) => ∀ w, o = some w → ∃ v, s = some v ∧ RelW K μ' H' w v) ρ σ
  | _, _, .nil => .nil
  | _, _, .cons a t => .cons (fun w e => let ⟨v, p, q⟩ := a w e; ⟨v, p, q.mono h x⟩) (envR_mono h x t)
theorem Rl.to {X : Cx} {μ μ' : List Addr} {ρ : EnvW} {st st' : List Cell} {σ : St} {H H' : Hp} (r : Rl X μ ρ st σ H) (h : μ <+: μ') (x : Ext X.K H H') (s : StR X.K X.mg μ' st' H') : Rl X μ' ρ st' σ H' := ⟨envR_mono h x r.env, s⟩
theorem envR_get {K : PySem.W.Frag} {μ : List Addr} {H : Hp} : ∀ {ρ : EnvW} {σ : St} {i : Nat} {w : W}, Paired (fun (o : Option W) (s : Option V) => ∀ w, o = some w → ∃ v, s = some v ∧ RelW K μ H w v) ρ σ → ρ[i]? = some (some w) → ∃ v, σ[i]? = some (some v) ∧ RelW K μ H w v
  | _, _, _, _, .nil, e => by simp at e
  | _, _, 0, w, .cons a t, e => by simp at e; obtain ⟨v, p, q⟩ := a w e; exact ⟨v, by simp [p], q⟩
  | _, _, i + 1, w, .cons a t, e => by simpa using envR_get (i := i) t (by simpa using e)
theorem envR_set {K : PySem.W.Frag} {μ : List Addr} {H : Hp} {w : W} {v : V} (r : RelW K μ H w v) : ∀ {ρ : EnvW} {σ : St} (i : Nat), Paired (fun (o : Option W) (s : Option V) => ∀ w, o = some w → ∃ v, s = some v ∧ RelW K μ H w v) ρ σ →
    Paired (fun (o : Option W) (s : Option V) => ∀ w, o = some w → ∃ v, s = some v ∧ RelW K μ H w v) (ρ.set i (some w)) (σ.set i (some v))
  | _, _, _, .nil => .nil
  | _, _, 0, .cons a t => .cons (fun w' e => ⟨v, rfl, by cases e; exact r⟩) t
  | _, _, i + 1, .cons a t => .cons a (envR_set r i t)

/-- an exception of class c is under way in the body of X: raised here, or come from a call. B: all that stood when it was made but the frames -/
structure Flies (X : Cx) (pins : List (Addr × Obj)) (σ : St) (c : Str) (H : Hp) (e : Value) (s : Shared) : Prop where
  inv : Inv X pins σ H s
  ex : ∃ x C t B, e = .ref x ∧ X.mg c = some C ∧ H x = none ∧ B.StaysIn s.heap ∧ B.get? x = none ∧ s.heap.FunFrames B X.stack ∧
    (s.heap.TracedW B x C (.ref t) ∨ (∃ oe vs, s.heap.get? x = some oe ∧ oe.cls = C ∧ oe.dict = none ∧ oe.data = .fields vs ∧ vs[1]? = some .none ∧ vs[0]? = some (.ref t)) ∨ ∃ L, X.env.frame = some L ∧ s.heap.TracedAtW B x C (.ref t) (rawInt L)) ∧
    ∀ b o, s.heap.get? b = some o → (H b ≠ none ∨ ((∃ o0, X.s₀.heap.get? b = some o0) ∧ b ∉ X.fs ∧ b ∉ X.ex) ∨ ((∃ y, X.env.cells.lookup y = some b) ∧ b ∉ frs X.stack) ∨ ∃ p ∈ X.pn ++ pins, p.1 = b) → B.get? b = some o
def XS (X : Cx) (c : Str) (μ : List Addr) (ρ : EnvW) (st : List Cell) (H : Hp) : Prop :=
  ∀ pins μ' σ' H' e s', μ <+: μ' → Ext X.K H H' → Rl X μ' ρ st σ' H' → Flies X pins σ' c H' e s' → X.xe e s'
def XE (X : Cx) (c : Str) (μ : List Addr) (st : List Cell) (σ : St) (H : Hp) : Prop :=
  ∀ pins μ' H' e s', μ <+: μ' → Ext X.K H H' → StR X.K X.mg μ' st H' → Flies X pins σ c H' e s' → X.xe e s'
theorem XE.mono {X : Cx} {c : Str} {μ μ1 : List Addr} {st : List Cell} {σ : St} {H H1 : Hp} (h : XE X c μ st σ H) (p : μ <+: μ1) (x : Ext X.K H H1) : XE X c μ1 st σ H1 := fun pins μ' H' e s' a b => h pins μ' H' e s' (p.trans a) (x.trans b)
theorem XS.mono {X : Cx} {c : Str} {μ μ1 : List Addr} {ρ : EnvW} {st : List Cell} {H H1 : Hp} (h : XS X c μ ρ st H) (p : μ <+: μ1) (x : Ext X.K H H1) : XS X c μ1 ρ st H1 := fun pins μ' σ' H' e s' a b => h pins μ' σ' H' e s' (p.trans a) (x.trans b)
theorem XS.toE {X : Cx} {c : Str} {μ : List Addr} {ρ : EnvW} {st0 st : List Cell} {σ : St} {H : Hp} (h : XS X c μ ρ st H) (r : Rl X μ ρ st0 σ H) : XE X c μ st σ H := fun pins μ' H' e s' a b s f => h pins μ' σ H' e s' a b (r.to a b s) f

/-- what a part of the code comes to, held against what is wanted -/
def RK {α β : Type} (X : Cx) (rel : List Addr → Hp → α → β → Prop) (μ : List Addr) (σ : St) (H : Hp) (Q : β → Hp → Prop) : R α → Prop
  | .ok a st' => ∀ μ' b H', μ <+: μ' → Ext X.K H H' → StR X.K X.mg μ' st' H' → rel μ' H' a b → Q b H'
  | .ex c st' => XE X c μ st' σ H
  | .bad => False
theorem RK.mono {α β : Type} {X : Cx} {rel : List Addr → Hp → α → β → Prop} {μ μ1 : List Addr} {σ : St} {H H1 : Hp} {Q : β → Hp → Prop} {r : R α} (h : RK X rel μ σ H Q r) (p : μ <+: μ1) (x : Ext X.K H H1) : RK X rel μ1 σ H1 Q r := by
  cases r with
  | ok a st => exact fun μ' b H' a1 b1 => h μ' b H' (p.trans a1) (x.trans b1)
  | ex c st => exact XE.mono h p x
  | bad => exact h
def tG {α β : Type} (X : Cx) (rel : List Addr → Hp → α → β → Prop) (f : EnvW → List Cell → R α) (σ : St) (H : Hp) (Q : β → Hp → Prop) : Prop :=
  ∃ μ ρ st, Rl X μ ρ st σ H ∧ RK X rel μ σ H Q (f ρ st)
abbrev relW (X : Cx) : List Addr → Hp → W → V → Prop := fun μ H w v => RelW X.K μ H w v
abbrev relA (X : Cx) : List Addr → Hp → List W → List V → Prop := fun μ H w v => RelWs X.K μ H w v
abbrev relB : List Addr → Hp → Bool → Bool → Prop := fun _ _ a b => a = b
abbrev tE (X : Cx) (f : FE) : TE := tG X (relW X) f
abbrev tT (X : Cx) (f : FT) : TT := tG X relB f
abbrev tA' (X : Cx) (f : FA) : TA := tG X (relA X) f
/-- the first of two parts -/
theorem RK.bind {α β α' β' : Type} {X : Cx} {rel : List Addr → Hp → α → β → Prop} {rel' : List Addr → Hp → α' → β' → Prop} {μ : List Addr} {ρ : EnvW} {st : List Cell} {σ : St} {H : Hp} {r : R α} {k : α → List Cell → R α'} {Q : β' → Hp → Prop} {T : β → Hp → Prop}
    (h : RK X rel' μ σ H Q (r.bind k)) (l : Rl X μ ρ st σ H)
    (hk : ∀ μ' st' x v H', μ <+: μ' → Ext X.K H H' → Rl X μ' ρ st' σ H' → rel μ' H' x v → RK X rel' μ' σ H' Q (k x st') → T v H') : RK X rel μ σ H T r := by
  cases r with
  | ok a st' => exact fun μ' b H' p x s q => hk μ' st' a b H' p x (l.to p x s) q (RK.mono h p x)
  | ex c st' => exact h
  | bad => exact h
def SK (X : Cx) (μ : List Addr) (H : Hp) (D : Ends) : RS → Prop
  | .nx ρ st => ∀ μ' σ' H', μ <+: μ' → Ext X.K H H' → Rl X μ' ρ st σ' H' → D.nx σ' H'
  | .bk ρ st => ∀ μ' σ' H', μ <+: μ' → Ext X.K H H' → Rl X μ' ρ st σ' H' → D.bk σ' H'
  | .ct ρ st => ∀ μ' σ' H', μ <+: μ' → Ext X.K H H' → Rl X μ' ρ st σ' H' → D.ct σ' H'
  | .rt w st => ∀ μ' v H', μ <+: μ' → Ext X.K H H' → StR X.K X.mg μ' st H' → RelW X.K μ' H' w v → D.rt v H'
  | .ex c ρ st => XS X c μ ρ st H
  | .bad => False
theorem SK.mono {X : Cx} {μ μ1 : List Addr} {H H1 : Hp} {D : Ends} {r : RS} (h : SK X μ H D r) (p : μ <+: μ1) (x : Ext X.K H H1) : SK X μ1 H1 D r := by
  cases r with
  | nx ρ st => exact fun μ' b H' a1 b1 => h μ' b H' (p.trans a1) (x.trans b1)
  | bk ρ st => exact fun μ' b H' a1 b1 => h μ' b H' (p.trans a1) (x.trans b1)
  | ct ρ st => exact fun μ' b H' a1 b1 => h μ' b H' (p.trans a1) (x.trans b1)
  | rt w st => exact fun μ' b H' a1 b1 => h μ' b H' (p.trans a1) (x.trans b1)
  | ex c ρ st => exact XS.mono h p x
  | bad => exact h
def tSt (X : Cx) (g : FS) : TS := fun D σ H => ∃ μ ρ st, Rl X μ ρ st σ H ∧ SK X μ H D (g ρ st)

structure SE (X : Cx) (e : Expr) (f : FE) : Prop where
  h : PE X e (tE X f)
structure ST (X : Cx) (e : Expr) (f : FT) : Prop where
  h : PT X e (tT X f)
structure SW (X : Cx) (e : Expr) (f : FT) : Prop where
  h : PW X e (tT X f)
structure SA (X : Cx) (es : List Expr) (f : FA) : Prop where
  h : PA X es (tA' X f)
structure SS (X : Cx) (s : Stmt) (g : FS) : Prop where
  h : PS X s (tSt X g)
structure SB (X : Cx) (s : List Stmt) (g : FS) : Prop where
  h : PSs X s (tSt X g)
theorem PE.imp {X : Cx} {e : Expr} {t t' : TE} (h : PE X e t) (i : ∀ σ H Q, t' σ H Q → t σ H Q) : PE X e t' := fun pins s σ H Q I q => h pins s σ H Q I (i _ _ _ q)
theorem PT.imp {X : Cx} {e : Expr} {t t' : TT} (h : PT X e t) (i : ∀ σ H Q, t' σ H Q → t σ H Q) : PT X e t' := fun pins s σ H Q I q => h pins s σ H Q I (i _ _ _ q)
theorem PW.imp {X : Cx} {e : Expr} {t t' : TT} (h : PW X e t) (i : ∀ σ H Q, t' σ H Q → t σ H Q) : PW X e t' := fun wh pins s σ H Q I q => h wh pins s σ H Q I (i _ _ _ q)
theorem PA.imp {X : Cx} {e : List Expr} {t t' : TA} (h : PA X e t) (i : ∀ σ H Q, t' σ H Q → t σ H Q) : PA X e t' := fun pos pins s σ H Q I q => h pos pins s σ H Q I (i _ _ _ q)
theorem PS.imp {X : Cx} {e : Stmt} {t t' : TS} (h : PS X e t) (i : ∀ D σ H, t' D σ H → t D σ H) : PS X e t' := fun pins s σ H D I q => h pins s σ H D I (i _ _ _ q)
theorem PSs.imp {X : Cx} {e : List Stmt} {t t' : TS} (h : PSs X e t) (i : ∀ D σ H, t' D σ H → t D σ H) : PSs X e t' := fun pins s σ H D I q => h pins s σ H D I (i _ _ _ q)

section
variable {X : Cx} {a b c e o : Expr} {es : List Expr} {pos p p2 apos cpos : Pos} {x name : Str} {j : Nat} {rest : List Expr} {fa fb fc fe : FE} {ft fu : FT} {fs : FA}
def eVar (i : Nat) : FE := fun ρ st => match ρ[i]? with
  | some (some w) => .ok w st
  | _ => .bad
theorem s_var (i : Nat) {x : Str} {pos : Pos} (hN : X.N[i]? = some x := by rfl) (hv : Vis X.env.scope x := by first | exact Or.inl rfl | exact Or.inr (Or.inl rfl) | exact Or.inr (Or.inr rfl)) (hd : (x == ("__debug__" : Str)) = false := by decide)
    (hcd : (x == ("__classdict__" : Str)) = false := by decide) : SE X (.Name x pos) (eVar i) := ⟨(pv i hN hv hd hcd).imp fun σ H Q h => by
  obtain ⟨μ, ρ, st, r, h⟩ := h
  unfold eVar at h
  cases e : ρ[i]? with
  | none => rw [e] at h; exact h.elim
  | some ow =>
    cases ow with
    | none => rw [e] at h; exact h.elim
    | some w =>
      rw [e] at h
      obtain ⟨v, e1, e2⟩ := envR_get r.env e
      exact ⟨v, e1, h μ v H (List.prefix_refl _) Ext.refl r.sto e2⟩⟩
def eC (w : W) : FE := fun _ st => .ok w st
theorem s_c {w : W} {v : V} (hc : PE X e (tC v)) (hr : ∀ μ H, RelW X.K μ H w v) : SE X e (eC w) := ⟨hc.imp fun σ H Q h => by
  obtain ⟨μ, ρ, st, r, h⟩ := h
  exact h μ v H (List.prefix_refl _) Ext.refl r.sto (hr _ _)⟩
theorem s_int {i : Int} : SE X (.Constant (.int i) j pos) (eC (.int i)) := s_c pe_int fun _ _ => .int
theorem s_bl {k : Bool} : SE X (.Constant (.bool k) j pos) (eC (.bl k)) := s_c pe_bl fun _ _ => .bl
theorem s_str {l : List Nat} (h : x = tx l := by decide +kernel) : SE X (.Constant (.str x) j pos) (eC (.str l)) := s_c pe_str fun _ _ => by rw [h]; exact .str
theorem s_gc {w : W} (h : ∃ u v, X.mg x = some u ∧ RelV 0 v u ∧ ∀ μ H, RelW X.K μ H w v) (hg : Gl X x := by rfl) (hd : (x == ("__debug__" : Str)) = false := by decide) : SE X (.Name x pos) (eC w) := by
  obtain ⟨u, v, a, b, c⟩ := h
  exact s_c (pe_gc ⟨u, a, b⟩ hg hd) c
def e2 (f : W → W → List Cell → R W) (fa fb : FE) : FE := fun ρ st => (fa ρ st).bind fun x st => (fb ρ st).bind fun y st => f x y st
/-- an operation that raises nothing -/
def OkW (X : Cx) (μ : List Addr) (H : Hp) (Q : VK) : R W → Prop
  | .ok w st' => ∀ μ' v H', μ <+: μ' → Ext X.K H H' → StR X.K X.mg μ' st' H' → RelW X.K μ' H' w v → Q v H'
  | _ => False
def noEx {α : Type} : R α → Prop
  | .ex _ _ => False
  | _ => True
def rW2 (X : Cx) (f : W → W → List Cell → R W) : R2 := fun x y H Q => ∃ μ st wx wy, StR X.K X.mg μ st H ∧ RelW X.K μ H wx x ∧ RelW X.K μ H wy y ∧ OkW X μ H Q (f wx wy st)
structure OpW (X : Cx) (g : Value → Value → Sem Value) (f : W → W → List Cell → R W) : Prop where
  h : OpR X g (rW2 X f)
  n : ∀ x y st, noEx (f x y st)
theorem okW_of {μ : List Addr} {σ : St} {H : Hp} {Q : VK} {r : R W} (h : RK X (relW X) μ σ H Q r) (n : noEx r) : OkW X μ H Q r := by
  cases r with
  | ok a st => exact h
  | ex c st => exact n.elim
  | bad => exact h
theorem e2_op {f : W → W → List Cell → R W} {σ : St} {H : Hp} {Q : VK} (n : ∀ x y st, noEx (f x y st)) (h : tE X (e2 f fa fb) σ H Q) : tOp (rW2 X f) (tE X fa) (tE X fb) σ H Q := by
  obtain ⟨μ, ρ, st, l, h⟩ := h
  refine ⟨μ, ρ, st, l, RK.bind h l fun μ1 st1 x v H1 p1 x1 l1 q1 h1 => ⟨μ1, ρ, st1, l1, RK.bind h1 l1 fun μ2 st2 y u H2 p2 x2 l2 q2 h2 => ?_⟩⟩
  exact ⟨μ2, st2, x, y, l2.sto, q1.mono p2 x2, q2, okW_of h2 (n _ _ _)⟩
theorem s_op {op : Operator} {f : W → W → List Cell → R W} (ho : OpW X (binaryOp op) f) (ha : SE X a fa) (hb : SE X b fb) : SE X (.BinOp a op b pos) (e2 f fa fb) := ⟨(pe_op ho.h ha.h hb.h).imp fun _ _ _ h => e2_op ho.n h⟩
theorem s_cmp {op : CmpOp} {f : W → W → List Cell → R W} (ho : OpW X (compareOp op) f) (ha : SE X a fa) (hb : SE X b fb) (hm : behindInMarks op b = false := by first | exact nomark _ | rfl) : SE X (.Compare a [op] [b] pos) (e2 f fa fb) := ⟨(pe_cmpR ho.h ha.h hb.h hm).imp fun _ _ _ h => e2_op ho.n h⟩
/-- a value as a test -/
def asB (fa : FE) : FT := fun ρ st => (fa ρ st).bind fun x st => match x with
  | .bl k => .ok k st
  | _ => .bad
theorem asB_test {σ : St} {H : Hp} {Q : Bool → Hp → Prop} (h : tT X (asB fa) σ H Q) : tE X fa σ H fun x H1 => ∃ k, x = .bl k ∧ Q k H1 := by
  obtain ⟨μ, ρ, st, l, h⟩ := h
  refine ⟨μ, ρ, st, l, RK.bind h l fun μ1 st1 x v H1 p1 x1 l1 q1 h1 => ?_⟩
  cases x with
  | bl k => exact ⟨k, q1.blE, h1 μ1 k H1 (List.prefix_refl _) Ext.refl l1.sto rfl⟩
  | _ => exact h1.elim
theorem st_cmp {op : CmpOp} {f : W → W → List Cell → R W} (ho : OpW X (compareOp op) f) (ha : SE X a fa) (hb : SE X b fb) (hm : behindInMarks op b = false := by first | exact nomark _ | rfl) : ST X (.Compare a [op] [b] pos) (asB (e2 f fa fb)) := ⟨(pt_cmpR ho.h ha.h hb.h hm).imp fun σ H Q h => by
  have h' : tE X (e2 f fa fb) σ H fun x H1 => ∃ k, x = .bl k ∧ Q k H1 := asB_test h
  exact e2_op ho.n h'⟩
theorem st_val (h : SE X e fe) (he : ∀ whole, isTrue e X.env whole = (do let v ← whole; standAt e.pos; holding [v] (truthy v)) := by intro _; rfl) : ST X e (asB fe) := ⟨(pt_val h.h he).imp fun σ H Q h => asB_test h⟩
def bnd (t u : FT) : FT := fun ρ st => (t ρ st).bind fun k st => if k then u ρ st else .ok false st
def bor (t u : FT) : FT := fun ρ st => (t ρ st).bind fun k st => if k then .ok true st else u ρ st
def bnt (t : FT) : FT := fun ρ st => (t ρ st).bind fun k st => .ok (!k) st
theorem sw_and1 (ha : ST X a ft) : SW X (.BoolOp .And [a] pos) ft := ⟨pw_and1 ha.h⟩
theorem sw_or1 (ha : ST X a ft) : SW X (.BoolOp .Or [a] pos) ft := ⟨pw_or1 ha.h⟩
theorem sw_and (ha : ST X a ft) (hb : SW X (.BoolOp .And (b :: rest) pos) fu) : SW X (.BoolOp .And (a :: b :: rest) pos) (bnd ft fu) := ⟨(pw_and ha.h hb.h).imp fun σ H Q h => by
  obtain ⟨μ, ρ, st, l, h⟩ := h
  refine ⟨μ, ρ, st, l, RK.bind h l fun μ1 st1 x v H1 p1 x1 l1 q1 h1 => ?_⟩
  cases q1
  cases x with
  | true => exact ⟨μ1, ρ, st1, l1, h1⟩
  | false => exact h1 μ1 false H1 (List.prefix_refl _) Ext.refl l1.sto rfl⟩
theorem sw_or (ha : ST X a ft) (hb : SW X (.BoolOp .Or (b :: rest) pos) fu) : SW X (.BoolOp .Or (a :: b :: rest) pos) (bor ft fu) := ⟨(pw_or ha.h hb.h).imp fun σ H Q h => by
  obtain ⟨μ, ρ, st, l, h⟩ := h
  refine ⟨μ, ρ, st, l, RK.bind h l fun μ1 st1 x v H1 p1 x1 l1 q1 h1 => ?_⟩
  cases q1
  cases x with
  | false => exact ⟨μ1, ρ, st1, l1, h1⟩
  | true => exact h1 μ1 true H1 (List.prefix_refl _) Ext.refl l1.sto rfl⟩
theorem st_w (h : SW X e ft) : ST X e ft := ⟨h.h.pt⟩
theorem st_not (ha : ST X a ft) : ST X (.UnaryOp .Not a pos) (bnt ft) := ⟨(pt_not ha.h).imp fun σ H Q h => by
  obtain ⟨μ, ρ, st, l, h⟩ := h
  refine ⟨μ, ρ, st, l, RK.bind h l fun μ1 st1 x v H1 p1 x1 l1 q1 h1 => ?_⟩
  cases q1
  exact h1 μ1 _ H1 (List.prefix_refl _) Ext.refl l1.sto rfl⟩
def eAnd (fa fb : FE) : FE := fun ρ st => (fa ρ st).bind fun x st => match x with
  | .bl true => fb ρ st
  | .bl false => .ok (.bl false) st
  | _ => .bad
def eNot (fa : FE) : FE := fun ρ st => (fa ρ st).bind fun x st => match x with
  | .bl k => .ok (.bl (!k)) st
  | _ => .bad
theorem s_one {op : BoolOp} (h : SE X a fa) : SE X (.BoolOp op [a] pos) fa := ⟨pe_one h.h⟩
theorem s_and (ha : SE X a fa) (hb : SE X (.BoolOp .And (b :: rest) pos) fb) : SE X (.BoolOp .And (a :: b :: rest) pos) (eAnd fa fb) := ⟨(pe_and ha.h hb.h).imp fun σ H Q h => by
  obtain ⟨μ, ρ, st, l, h⟩ := h
  refine ⟨μ, ρ, st, l, RK.bind h l fun μ1 st1 x v H1 p1 x1 l1 q1 h1 => ?_⟩
  cases x with
  | bl k =>
    refine ⟨k, q1.blE, ?_⟩
    cases k with
    | true => exact ⟨μ1, ρ, st1, l1, h1⟩
    | false => exact h1 μ1 _ H1 (List.prefix_refl _) Ext.refl l1.sto .bl
  | _ => exact h1.elim⟩
theorem s_not (ha : SE X a fa) : SE X (.UnaryOp .Not a pos) (eNot fa) := ⟨(pe_not ha.h).imp fun σ H Q h => by
  obtain ⟨μ, ρ, st, l, h⟩ := h
  refine ⟨μ, ρ, st, l, RK.bind h l fun μ1 st1 x v H1 p1 x1 l1 q1 h1 => ?_⟩
  cases x with
  | bl k => exact ⟨k, q1.blE, h1 μ1 _ H1 (List.prefix_refl _) Ext.refl l1.sto .bl⟩
  | _ => exact h1.elim⟩
def eIf (t : FT) (fa fb : FE) : FE := fun ρ st => (t ρ st).bind fun k st => if k then fa ρ st else fb ρ st
theorem s_if (hc : ST X c ft) (ha : SE X a fa) (hb : SE X b fb) : SE X (.IfExp c a b pos) (eIf ft fa fb) := ⟨(pe_ifExp hc.h ha.h hb.h).imp fun σ H Q h => by
  obtain ⟨μ, ρ, st, l, h⟩ := h
  refine ⟨μ, ρ, st, l, RK.bind h l fun μ1 st1 x v H1 p1 x1 l1 q1 h1 => ?_⟩
  cases q1
  cases x with
  | false => exact ⟨μ1, ρ, st1, l1, h1⟩
  | true => exact ⟨μ1, ρ, st1, l1, h1⟩⟩
def W.isNon : W → Bool
  | .non => true
  | _ => false
def eIsN (fa : FE) : FE := fun ρ st => (fa ρ st).bind fun x st => .ok (.bl x.isNon) st
def eNotN (fa : FE) : FE := fun ρ st => (fa ρ st).bind fun x st => .ok (.bl (!x.isNon)) st
theorem isN_V {μ : List Addr} {H : Hp} {w : W} {v : V} (r : RelW X.K μ H w v) : decide (v = .non) = w.isNon := by
  cases w with
  | non => rw [r.nonE]; rfl
  | bl b => rw [r.blE]; rfl
  | int b => rw [r.intE]; rfl
  | str b => rw [r.strE]; rfl
  | tup b => obtain ⟨p, vs, rfl, _⟩ := r.tupE; rfl
  | loc b => obtain ⟨p, _, rfl⟩ := r.locE; rfl
theorem isN_t {σ : St} {H : Hp} {Q : VK} (h : tE X (eIsN fa) σ H Q) : tIsN (tE X fa) σ H Q := by
  obtain ⟨μ, ρ, st, l, h⟩ := h
  refine ⟨μ, ρ, st, l, RK.bind h l fun μ1 st1 x v H1 p1 x1 l1 q1 h1 => ?_⟩
  show Q (.bl (decide (v = .non))) H1
  rw [isN_V q1]
  exact h1 μ1 _ H1 (List.prefix_refl _) Ext.refl l1.sto .bl
theorem s_isN {pos' : Pos} (ha : SE X a fa) : SE X (.Compare a [.Is] [.Constant .none j pos'] pos) (eIsN fa) := ⟨(pe_cmp (pc_isN ha.h)).imp fun _ _ _ h => isN_t h⟩
theorem st_isN {pos' : Pos} (ha : SE X a fa) : ST X (.Compare a [.Is] [.Constant .none j pos'] pos) (asB (eIsN fa)) := ⟨(pt_cmp (pc_isN ha.h)).imp fun _ _ _ h => isN_t (asB_test h)⟩
def aNil : FA := fun _ st => .ok [] st
def aCons (fa : FE) (fs : FA) : FA := fun ρ st => (fa ρ st).bind fun x st => (fs ρ st).bind fun xs st => .ok (x :: xs) st
theorem sa_nil : SA X [] aNil := ⟨pa_nil.imp fun σ H Q h => by
  obtain ⟨μ, ρ, st, l, h⟩ := h
  exact h μ [] H (List.prefix_refl _) Ext.refl l.sto .nilI⟩
theorem sa_cons (ha : SE X e fe) (hr : SA X es fs) (hs : starEach (e :: es) X.env = (false, eval e X.env) :: starEach es X.env := by rfl) : SA X (e :: es) (aCons fe fs) := ⟨(pa_cons ha.h hr.h hs).imp fun σ H Q h => by
  obtain ⟨μ, ρ, st, l, h⟩ := h
  refine ⟨μ, ρ, st, l, RK.bind h l fun μ1 st1 x v H1 p1 x1 l1 q1 h1 => ⟨μ1, ρ, st1, l1, RK.bind h1 l1 fun μ2 st2 xs vs H2 p2 x2 l2 q2 h2 => ?_⟩⟩
  exact h2 μ2 _ H2 (List.prefix_refl _) Ext.refl l2.sto (.consI (q1.mono p2 x2) q2)⟩
def wStrs (zs : List (List Nat)) : FA := fun _ st => .ok (zs.map W.str) st
def mkTup (ws : List W) (st : List Cell) : R W := if ws.length ≤ LIM then .ok (.tup ws) st else .bad
def mkLst (ws : List W) (st : List Cell) : R W := if ws.length ≤ LIM then .ok (.loc st.length) (st ++ [.lst ws]) else .bad
def eTup (fs : FA) : FE := fun ρ st => (fs ρ st).bind fun ws st => mkTup ws st
def eLst (fs : FA) : FE := fun ρ st => (fs ρ st).bind fun ws st => mkLst ws st
theorem StR.newLst {K : PySem.W.Frag} {mg : Str → Option Value} {μ : List Addr} {st : List Cell} {H : Hp} (S : StR K mg μ st H) {p : Addr} {ws : List W} {vs : List V} (hp : H p = none) (r : RelWs K μ H ws vs) : StR K mg (μ ++ [p]) (st ++ [.lst ws]) (upd H p (.lst vs)) :=
  S.push hp ⟨vs, upd_same, r.mono (List.prefix_append _ _) (SqT.same (same_new hp _))⟩
theorem newLoc {K : PySem.W.Frag} {mg : Str → Option Value} {μ : List Addr} {st : List Cell} {H H' : Hp} (S : StR K mg μ st H) {p : Addr} : RelW K (μ ++ [p]) H' (.loc st.length) (.ref p) := .locI (by rw [S.len]; simp)
theorem mkTup_ok {μ : List Addr} {st : List Cell} {σ : St} {H : Hp} {Q : VK} {ws : List W} {vs : List V} (S : StR X.K X.mg μ st H) (q : RelWs X.K μ H ws vs) (h : RK X (relW X) μ σ H Q (mkTup ws st)) : vs.length ≤ sizeLine ∧ ∀ p H2, H p = none → H2 = upd H p (.tup vs) → Q (.ref p) H2 := by
  unfold mkTup at h
  by_cases hz : ws.length ≤ LIM
  · rw [if_pos hz] at h
    refine ⟨by rw [← q.len]; exact lim_le hz, fun p H2 hp e => ?_⟩
    subst e
    have x := SqT.same (K := X.K) (same_new hp (.tup vs))
    exact h μ _ _ (List.prefix_refl _) x (S.same (same_new hp _)) (.tupI SqT.new (q.mono (List.prefix_refl _) x))
  · rw [if_neg hz] at h; exact h.elim
theorem mkLst_ok {μ : List Addr} {st : List Cell} {σ : St} {H : Hp} {Q : VK} {ws : List W} {vs : List V} (S : StR X.K X.mg μ st H) (q : RelWs X.K μ H ws vs) (h : RK X (relW X) μ σ H Q (mkLst ws st)) : vs.length ≤ sizeLine ∧ ∀ p H2, H p = none → H2 = upd H p (.lst vs) → Q (.ref p) H2 := by
  unfold mkLst at h
  by_cases hz : ws.length ≤ LIM
  · rw [if_pos hz] at h
    refine ⟨by rw [← q.len]; exact lim_le hz, fun p H2 hp e => ?_⟩
    subst e
    exact h (μ ++ [p]) _ _ (List.prefix_append _ _) (SqT.same (same_new hp _)) (S.newLst hp q) (newLoc S)
  · rw [if_neg hz] at h; exact h.elim
theorem s_tup {k : Nat} (h : SA X es fs) : SE X (.Tuple es k pos) (eTup fs) := ⟨(pe_tupF h.h).imp fun σ H Q h => by
  obtain ⟨μ, ρ, st, l, h⟩ := h
  exact ⟨μ, ρ, st, l, RK.bind h l fun μ1 st1 x v H1 p1 x1 l1 q1 h1 => mkTup_ok l1.sto q1 h1⟩⟩
theorem s_lst (h : SA X es fs) : SE X (.List es pos) (eLst fs) := ⟨(pe_lstF h.h).imp fun σ H Q h => by
  obtain ⟨μ, ρ, st, l, h⟩ := h
  exact ⟨μ, ρ, st, l, RK.bind h l fun μ1 st1 x v H1 p1 x1 l1 q1 h1 => mkLst_ok l1.sto q1 h1⟩⟩
end
end L2
set_option Elab.async false
set_option linter.all false
set_option maxRecDepth 100000
set_option maxHeartbeats 4000000
namespace L2
open PySem PySem.Spec PyProof.Rows
section
variable {X : Cx}
theorem okW_int {μ : List Addr} {st : List Cell} {H : Hp} {Q : VK} {i : Int} (S : StR X.K X.mg μ st H) (h : OkW X μ H Q (.ok (.int i) st)) : Q (.int i) H := h μ _ H (List.prefix_refl _) Ext.refl S .int
theorem okW_bl {μ : List Addr} {st : List Cell} {H : Hp} {Q : VK} {i : Bool} (S : StR X.K X.mg μ st H) (h : OkW X μ H Q (.ok (.bl i) st)) : Q (.bl i) H := h μ _ H (List.prefix_refl _) Ext.refl S .bl
theorem okW_str {μ : List Addr} {st : List Cell} {H : Hp} {Q : VK} {i : List Nat} (S : StR X.K X.mg μ st H) (h : OkW X μ H Q (.ok (.str i) st)) : Q (.str (tx i)) H := h μ _ H (List.prefix_refl _) Ext.refl S .str
theorem okW_rk {μ : List Addr} {σ : St} {H : Hp} {Q : VK} {r : R W} (h : OkW X μ H Q r) : RK X (relW X) μ σ H Q r := by
  cases r with
  | ok a st => exact h
  | ex c st => exact h.elim
  | bad => exact h
/-- two ints with a condition -/
def wII (C : Int → Int → Prop) [∀ i j, Decidable (C i j)] (f : Int → Int → Int) : W → W → List Cell → R W
  | .int i, .int j, st => if C i j then .ok (.int (f i j)) st else .bad
  | _, _, _ => .bad
theorem opII {g : Value → Value → Sem Value} {C C' : Int → Int → Prop} [∀ i j, Decidable (C' i j)] {f : Int → Int → Int} (h : OpR X g (rI C fun i j => .int (f i j))) (hC : ∀ i j, C' i j → C i j) : OpW X g (wII C' f) := ⟨h.imp fun x y H Q ⟨μ, st, wx, wy, S, rx, ry, q⟩ => by
  cases wx with
  | int i =>
    cases wy with
    | int j =>
      simp only [wII] at q
      by_cases c : C' i j
      · rw [if_pos c] at q; exact ⟨i, j, rx.intE, ry.intE, hC i j c, okW_int S q⟩
      · rw [if_neg c] at q; exact q.elim
    | _ => exact q.elim
  | _ => cases wy <;> exact q.elim, fun x y st => by
  unfold wII
  split
  · split <;> trivial
  · trivial⟩
def wCmp (f : Int → Int → Bool) : W → W → List Cell → R W
  | .int i, .int j, st => .ok (.bl (f i j)) st
  | _, _, _ => .bad
theorem opCmp {g : Value → Value → Sem Value} {f : Int → Int → Bool} (h : OpR X g (rI0 fun i j => .bl (f i j))) : OpW X g (wCmp f) := ⟨h.imp fun x y H Q ⟨μ, st, wx, wy, S, rx, ry, q⟩ => by
  cases wx with
  | int i =>
    cases wy with
    | int j => exact ⟨i, j, rx.intE, ry.intE, okW_bl S q⟩
    | _ => exact q.elim
  | _ => cases wy <;> exact q.elim, fun x y st => by
  unfold wCmp
  split <;> trivial⟩
abbrev cMul (i j : Int) : Prop := (-(2 ^ 64) < i ∧ i < 2 ^ 64) ∨ (-(2 ^ 64) < j ∧ j < 2 ^ 64)
abbrev wSub := wII (fun _ _ => True) fun i j => i - j
abbrev wMul := wII cMul fun i j => i * j
abbrev wMod := wII (fun _ j => 0 < j) fun i j => i % j
abbrev wFdiv := wII (fun _ j => 0 < j ∧ j < 1073741824) fun i j => i / j
abbrev wPow := wII (fun i j => 0 ≤ j ∧ j ≤ 1000000 ∧ i.natAbs < 2 ^ 64) fun i j => i ^ j.toNat
abbrev wShr := wII (fun _ j => 0 ≤ j) fun i j => i / 2 ^ j.toNat
abbrev wBand := wII (fun _ _ => True) fun i j => Builtin.bitAnd i j
theorem rI0_rI {g : Value → Value → Sem Value} {f : Int → Int → V} (h : OpR X g (rI0 f)) : OpR X g (rI (fun _ _ => True) f) := h.imp fun _ _ _ _ ⟨i, j, a, b, _, q⟩ => ⟨i, j, a, b, q⟩
theorem w_sub : OpW X (binaryOp .Sub) wSub := opII (rI0_rI op_sub) fun _ _ _ => trivial
theorem w_mul : OpW X (binaryOp .Mult) wMul := opII op_mul fun _ _ h => h
theorem w_mod : OpW X (binaryOp .Mod) wMod := opII op_mod fun _ _ h => h
theorem w_fdiv : OpW X (binaryOp .FloorDiv) wFdiv := opII op_fdiv fun _ _ h => h
theorem w_pow : OpW X (binaryOp .Pow) wPow := opII op_pow fun _ _ h => h
theorem w_shr : OpW X (binaryOp .RShift) wShr := opII op_shr fun _ _ h => h
theorem w_band : OpW X (binaryOp .BitAnd) wBand := opII (rI0_rI op_and) fun _ _ _ => trivial
/-- a + b: ints, texts, tuples, lists -/
def wAdd : W → W → List Cell → R W
  | .int i, .int j, st => .ok (.int (i + j)) st
  | .str a, .str b, st => if a.length + b.length ≤ LIM then .ok (.str (a ++ b)) st else .bad
  | .tup a, .tup b, st => mkTup (a ++ b) st
  | .loc n, .loc m, st => match st[n]?, st[m]? with
    | some (.lst a), some (.lst b) => mkLst (a ++ b) st
    | _, _ => .bad
  | _, _, _ => .bad
theorem mkTup_n (ws : List W) (st : List Cell) : noEx (mkTup ws st) := by unfold mkTup; split <;> trivial
theorem mkLst_n (ws : List W) (st : List Cell) : noEx (mkLst ws st) := by unfold mkLst; split <;> trivial
theorem w_add : OpW X (binaryOp .Add) wAdd := ⟨fun pins s σ H x y v u Q I rv ru ⟨μ, st, wx, wy, S, rx, ry, q⟩ => by
  cases wx with
  | int i =>
    cases wy with
    | int j => exact op_add pins s σ H x y v u Q I rv ru ⟨i, j, rx.intE, ry.intE, okW_int S q⟩
    | _ => exact q.elim
  | str a =>
    cases wy with
    | str b =>
      simp only [wAdd] at q
      by_cases c : a.length + b.length ≤ LIM
      · rw [if_pos c] at q
        exact op_add_str pins s σ H x y v u Q I rv ru ⟨_, _, rx.strE, ry.strE, by rw [tx_len, tx_len]; exact lim_le c, by rw [tx_app]; exact okW_str S q⟩
      · rw [if_neg c] at q; exact q.elim
    | _ => exact q.elim
  | tup a =>
    cases wy with
    | tup b =>
      obtain ⟨p1, vs1, rfl, h1, r1⟩ := rx.tupE
      obtain ⟨p2, vs2, rfl, h2, r2⟩ := ry.tupE
      have q' : OkW X μ H Q (mkTup (a ++ b) st) := q
      unfold mkTup at q'
      by_cases c : (a ++ b).length ≤ LIM
      · rw [if_pos c] at q'
        refine o_catA.h pins s σ H _ _ v u Q I rv ru ⟨p1, p2, vs1, vs2, rfl, rfl, h1, h2, by rw [← r1.len, ← r2.len, ← List.length_append]; exact lim_le c, fun p H2 e t => ?_⟩
        exact q' μ _ _ (List.prefix_refl _) (SqT.same e) (S.same e) (.tupI t ((r1.app r2).mono (List.prefix_refl _) (SqT.same e)))
      · rw [if_neg c] at q'; exact q'.elim
    | _ => exact q.elim
  | loc n =>
    cases wy with
    | loc m =>
      simp only [wAdd] at q
      cases e1 : st[n]? with
      | none => rw [e1] at q; exact q.elim
      | some c1 =>
        cases e2 : st[m]? with
        | none => rw [e1, e2] at q; cases c1 <;> exact q.elim
        | some c2 =>
          cases c1 with
          | lst a =>
            cases c2 with
            | lst b =>
              rw [e1, e2] at q
              obtain ⟨a1, g1, vs1, k1, r1⟩ := S.get e1
              obtain ⟨a2, g2, vs2, k2, r2⟩ := S.get e2
              obtain ⟨b1, f1, rfl⟩ := rx.locE
              obtain ⟨b2, f2, rfl⟩ := ry.locE
              rw [g1] at f1; cases f1
              rw [g2] at f2; cases f2
              obtain ⟨hz, qq⟩ := mkLst_ok (σ := σ) S (r1.app r2) (okW_rk q)
              exact op_catF pins s σ H _ _ v u Q I rv ru ⟨a1, a2, vs1, vs2, rfl, rfl, k1, k2, by rw [← List.length_append]; exact hz, qq⟩
            | _ => rw [e1, e2] at q; exact q.elim
          | _ => rw [e1, e2] at q; exact q.elim
    | _ => exact q.elim
  | _ => cases wy <;> exact q.elim, fun x y st => by
  unfold wAdd
  split
  · trivial
  · split <;> trivial
  · exact mkTup_n _ _
  · split
    · exact mkLst_n _ _
    · trivial
  · trivial⟩
abbrev wLt' := wCmp fun i j => decide (i < j)
abbrev wGt := wCmp fun i j => decide (j < i)
abbrev wGe := wCmp fun i j => decide (j ≤ i)
theorem w_lt : OpW X (compareOp .Lt) wLt' := opCmp op_lt
theorem w_gt : OpW X (compareOp .Gt) wGt := opCmp op_gt
theorem w_ge : OpW X (compareOp .GtE) wGe := opCmp op_ge
end
end L2
set_option Elab.async false
set_option linter.all false
set_option maxRecDepth 100000
set_option maxHeartbeats 4000000
namespace L2
variable {nk : Nat}
open PySem PySem.Spec PyProof.Rows
mutual
def eqW : W → W → Option Bool
  | .non, .non => some true
  | .bl a, .bl b => some (a == b)
  | .bl a, .int b => some ((if a then 1 else 0) == b)
  | .int a, .bl b => some (a == (if b then 1 else 0))
  | .int a, .int b => some (a == b)
  | .str a, .str b => some (a == b)
  | .tup a, .tup b => eqWs a b
  | .loc _, _ => none
  | .non, .loc _ => none
  | .bl _, .loc _ => none
  | .int _, .loc _ => none
  | .str _, .loc _ => none
  | .tup _, .loc _ => none
  | .non, .bl _ => some false
  | .non, .int _ => some false
  | .non, .str _ => some false
  | .non, .tup _ => some false
  | .bl _, .non => some false
  | .bl _, .str _ => some false
  | .bl _, .tup _ => some false
  | .int _, .non => some false
  | .int _, .str _ => some false
  | .int _, .tup _ => some false
  | .str _, .non => some false
  | .str _, .bl _ => some false
  | .str _, .int _ => some false
  | .str _, .tup _ => some false
  | .tup _, .non => some false
  | .tup _, .bl _ => some false
  | .tup _, .int _ => some false
  | .tup _, .str _ => some false
def eqWs : List W → List W → Option Bool
  | [], [] => some true
  | [], _ :: _ => some false
  | _ :: _, [] => some false
  | x :: xs, y :: ys => match eqW x y, eqWs xs ys with
    | some a, some b => some (a && b)
    | _, _ => none
end
mutual
def W.dep : W → Nat
  | .tup ws => depWs ws + 1
  | _ => 0
def depWs : List W → Nat
  | [] => 0
  | w :: ws => max w.dep (depWs ws)
end
theorem eqWs_range : ∀ (xs ys : List W) (b : Bool), eqWs xs ys = some b → ∃ e : Nat → Bool, (∀ j (h1 : j < xs.length) (h2 : j < ys.length), eqW xs[j] ys[j] = some (e j)) ∧ ((List.range (min xs.length ys.length)).all e && xs.length == ys.length) = b
  | [], [], b, h => by unfold eqWs at h; cases h; exact ⟨fun _ => true, fun j h1 => absurd h1 (Nat.not_lt_zero _), rfl⟩
  | [], y :: ys, b, h => by unfold eqWs at h; cases h; exact ⟨fun _ => true, fun j h1 => absurd h1 (Nat.not_lt_zero _), by simp⟩
  | x :: xs, [], b, h => by unfold eqWs at h; cases h; exact ⟨fun _ => true, fun j _ h1 => absurd h1 (Nat.not_lt_zero _), by simp⟩
  | x :: xs, y :: ys, b, h => by
    unfold eqWs at h
    cases e1 : eqW x y with
    | none => rw [e1] at h; simp at h
    | some a =>
      cases e2 : eqWs xs ys with
      | none => rw [e1, e2] at h; simp at h
      | some c =>
        rw [e1, e2] at h
        simp at h
        obtain ⟨e, he, hb⟩ := eqWs_range xs ys c e2
        refine ⟨fun j => match j with | 0 => a | j + 1 => e j, fun j h1 h2 => ?_, ?_⟩
        · cases j with
          | zero => exact e1
          | succ j => exact he j (Nat.lt_of_succ_lt_succ h1) (Nat.lt_of_succ_lt_succ h2)
        · have m : min (x :: xs).length (y :: ys).length = min xs.length ys.length + 1 := by simp only [List.length_cons]; omega
          rw [m, List.range_succ_eq_map, List.all_cons, List.all_map, ← h, ← hb]
          simp [Function.comp_def, Bool.and_assoc]
theorem self_sc {X : Cx} {H : Hp} {μ : List Addr} {a b : W} {x : V} {k : Bool} (hn : a.dep ≤ 0) (ra : RelW X.K μ H a x) (rb : RelW X.K μ H b x) (he : eqW a b = some k) : k = true := by
  cases a with
  | tup i => unfold W.dep at hn; omega
  | non => cases ra.nonE; cases b <;> first | (unfold eqW at he; cases he; rfl) | cases rb.blE | cases rb.intE | cases rb.strE | (obtain ⟨_, _, z, _⟩ := rb.tupE; cases z) | (unfold eqW at he; cases he)
  | bl i => cases ra.blE; cases b <;> first | (cases rb.blE; unfold eqW at he; simp at he; exact he) | cases rb.nonE | cases rb.intE | cases rb.strE | (obtain ⟨_, _, z, _⟩ := rb.tupE; cases z) | (unfold eqW at he; cases he)
  | int i => cases ra.intE; cases b <;> first | (cases rb.intE; unfold eqW at he; simp at he; exact he) | cases rb.nonE | cases rb.blE | cases rb.strE | (obtain ⟨_, _, z, _⟩ := rb.tupE; cases z) | (unfold eqW at he; cases he)
  | str i => cases ra.strE; cases b <;> first | (have z := rb.strE; injection z with z; rw [tx_inj.mp z] at he; unfold eqW at he; simp at he; exact he) | cases rb.nonE | cases rb.blE | cases rb.intE | (obtain ⟨_, _, z, _⟩ := rb.tupE; cases z) | (unfold eqW at he; cases he)
  | loc i => cases b <;> (unfold eqW at he; cases he)
theorem eqW_self {X : Cx} {pins : List (Addr × Obj)} {σ : St} {H : Hp} {s : Shared} {μ : List Addr} (I : Inv X pins σ H s) : ∀ (n : Nat) (a b : W) (x : V) (k : Bool), a.dep ≤ n → RelW X.K μ H a x → RelW X.K μ H b x → eqW a b = some k → k = true := by
  intro n
  induction n with
  | zero => exact fun a b x k hn ra rb he => self_sc hn ra rb he
  | succ n ih =>
    intro a b x k hn ra rb he
    cases a with
    | tup i =>
      obtain ⟨p', vs', rfl, hS', r'⟩ := ra.tupE
      cases b with
      | tup z =>
        obtain ⟨p, vs, e, hS, r⟩ := rb.tupE
        cases e
        obtain rfl := I.tuple_inj hS hS'
        have he' : eqWs i z = some k := by unfold eqW at he; exact he
        have dn : depWs i ≤ n := by unfold W.dep at hn; omega
        have key : ∀ (i z : List W) (vs : List V) (k : Bool), depWs i ≤ n → RelWs X.K μ H i vs → RelWs X.K μ H z vs → eqWs i z = some k → k = true := by
          intro i
          induction i with
          | nil =>
            intro z vs k _ r' r he
            have e1 := r'.nilE
            subst e1
            cases z with
            | nil => unfold eqWs at he; cases he; rfl
            | cons _ _ => have e2 := r.len; simp at e2
          | cons w i ih2 =>
            intro z vs k dn r' r he
            obtain ⟨x, xs, rfl, rx, rxs⟩ := r'.consE
            cases z with
            | nil => have e2 := r.len; simp at e2
            | cons y z =>
              obtain ⟨x2, xs2, e3, ry, rys⟩ := r.consE
              cases e3
              unfold eqWs at he
              cases e1 : eqW w y with
              | none => rw [e1] at he; simp at he
              | some k1 =>
                cases e2 : eqWs i z with
                | none => rw [e1, e2] at he; simp at he
                | some k2 =>
                  rw [e1, e2] at he
                  simp at he
                  unfold depWs at dn
                  have q1 := ih w y x k1 (by omega) rx ry e1
                  have q2 := ih2 z xs k2 (by omega) rxs rys e2
                  rw [← he, q1, q2]; rfl
        exact key i z _ k dn r' r he'
      | non => cases rb.nonE
      | bl z => cases rb.blE
      | int z => cases rb.intE
      | str z => cases rb.strE
      | loc z => unfold eqW at he; cases he
    | _ => exact self_sc (Nat.le_refl _) ra rb he
theorem depWs_get : ∀ {ws : List W} {j : Nat} (h : j < ws.length), ws[j].dep ≤ depWs ws
  | w :: ws, 0, _ => by unfold depWs; exact Nat.le_max_left _ _
  | w :: ws, j + 1, h => by unfold depWs; exact Nat.le_trans (depWs_get (j := j) (Nat.lt_of_succ_lt_succ h)) (Nat.le_max_right _ _)
/-- what a whole value is in the heap -/
inductive Sh (s : Shared) : W → Value → Prop
  | non : Sh s .non .none
  | bl (b : Bool) : Sh s (.bl b) (.bool b)
  | int (i : Int) (t : Tok) : Sh s (.int i) (.int i t)
  | str (l : List Nat) (t : Tok) : Sh s (.str l) (.str (tx l) t)
  | tup (ws : List W) (p : Addr) (its : List Value) (h : IsTup s.heap p its.toArray) : Sh s (.tup ws) (.ref p)
  | loc (n : Nat) (u : Value) : Sh s (.loc n) u
section
variable {X : Cx} {pins : List (Addr × Obj)} {σ : St} {H : Hp} {s : Shared} {μ : List Addr}
theorem sh_of (I : Inv X pins σ H s) {a : W} {x : V} {u : Value} (ra : RelW X.K μ H a x) (ru : RelV s.toks x u) : Sh s a u := by
  cases a with
  | non => cases ra.nonE; cases ru; exact .non
  | bl i => cases ra.blE; cases ru; exact .bl _
  | int i => cases ra.intE; obtain ⟨t, rfl⟩ := ru; exact .int _ _
  | str i => cases ra.strE; obtain ⟨t, rfl⟩ := ru; exact .str _ _
  | tup i => obtain ⟨p, vs, rfl, hS, _⟩ := ra.tupE; cases ru; obtain ⟨its, _, ht, _⟩ := I.tuple hS; exact .tup _ _ _ ht
  | loc i => exact .loc _ _
open SeqAt.EqAt in
theorem eqAt_sc {A : Around} {a b : W} {u v : Value} {k : Bool} (ha : Sh s a u) (hb : Sh s b v) (hu : A.units < cLine) (ht : b.dep = 0 ∨ a.dep = 0) (he : eqW a b = some k) : SeqAt.EqAt A s u v k := by
  cases ha <;> cases hb <;> first
    | (unfold eqW at he; cases he; done)
    | (unfold eqW at he; cases he; with_reducible first | exact same _ | exact bool_none _ | exact bool_bool _ _ | exact bool_int _ _ _ | exact bool_str _ _ _ | exact int_none _ _ | exact int_bool _ _ _ | exact int_int _ _ _ _ | exact int_str _ _ _ _ | exact str_none _ _ | exact str_bool _ _ _ | exact str_int _ _ _ _ | exact none_bool _ | exact none_int _ _ | exact none_str _ _)
    | (unfold eqW at he; cases he; (with_reducible first | refine' bool_tuple _ ?_ hu | refine' int_tuple _ _ ?_ hu | refine' str_tuple _ _ ?_ hu | refine' tuple_none ?_ hu | refine' tuple_bool _ ?_ hu | refine' tuple_int _ _ ?_ hu | refine' tuple_str _ _ ?_ hu | refine' none_tuple ?_ hu); rotate_left; assumption)
    | (unfold W.dep at ht; omega)
    | skip
  rename_i i t z r
  unfold eqW at he; cases he
  have := str_str (A := A) (s := s) (tx i) t (tx z) r
  rw [← SeqAt.str_beq] at this
  exact this
open SeqAt.RcAt in
theorem rcAt_sc {A : Around} {a b : W} {u v : Value} {k : Bool} (ha : Sh s a u) (hb : Sh s b v) (hu : A.units < cLine) (ht : b.dep = 0 ∨ a.dep = 0) (he : eqW a b = some k) : SeqAt.RcAt A s u v k := by
  cases ha <;> cases hb <;> first
    | (unfold eqW at he; cases he; done)
    | (unfold eqW at he; cases he; with_reducible first | exact none_none | exact bool_none _ | exact bool_bool _ _ | exact bool_int _ _ _ | exact bool_str _ _ _ | exact int_none _ _ | exact int_bool _ _ _ | exact int_int _ _ _ _ | exact int_str _ _ _ _ | exact str_none _ _ | exact str_bool _ _ _ | exact str_int _ _ _ _ | exact none_bool _ | exact none_int _ _ | exact none_str _ _)
    | (unfold eqW at he; cases he; (with_reducible first | refine' bool_tuple _ ?_ hu | refine' int_tuple _ _ ?_ hu | refine' str_tuple _ _ ?_ hu | refine' tuple_none ?_ hu | refine' tuple_bool _ ?_ hu | refine' tuple_int _ _ ?_ hu | refine' tuple_str _ _ ?_ hu | refine' none_tuple ?_ hu); rotate_left; assumption)
    | (unfold W.dep at ht; omega)
    | skip
  rename_i i t z r
  unfold eqW at he; cases he
  have := str_str (A := A) (s := s) (tx i) t (tx z) r
  rw [← SeqAt.str_beq] at this
  exact this
open SeqAt.RcNeAt in
theorem rcNeAt_sc {A : Around} {a b : W} {u v : Value} {k : Bool} (ha : Sh s a u) (hb : Sh s b v) (hu : A.units < cLine) (ht : b.dep = 0 ∨ a.dep = 0) (he : eqW a b = some k) : SeqAt.RcNeAt A s u v (!k) := by
  cases ha <;> cases hb <;> first
    | (unfold eqW at he; cases he; done)
    | (unfold eqW at he; cases he; try simp only [Bool.not_true, Bool.not_false]
       with_reducible first | exact none_none | exact bool_none _ | exact bool_bool _ _ | exact bool_int _ _ _ | exact bool_str _ _ _ | exact int_none _ _ | exact int_bool _ _ _ | exact int_int _ _ _ _ | exact int_str _ _ _ _ | exact str_none _ _ | exact str_bool _ _ _ | exact str_int _ _ _ _ | exact none_bool _ | exact none_int _ _ | exact none_str _ _)
    | (unfold eqW at he; cases he; try simp only [Bool.not_true, Bool.not_false]
       (with_reducible first | refine' bool_tuple _ ?_ hu | refine' int_tuple _ _ ?_ hu | refine' str_tuple _ _ ?_ hu | refine' tuple_none ?_ hu | refine' tuple_bool _ ?_ hu | refine' tuple_int _ _ ?_ hu | refine' tuple_str _ _ ?_ hu | refine' none_tuple ?_ hu); rotate_left; assumption)
    | (unfold W.dep at ht; omega)
    | skip
  rename_i i t z r
  unfold eqW at he; cases he
  have := str_str (A := A) (s := s) (tx i) t (tx z) r
  rw [← SeqAt.str_beq] at this
  exact this
/-- two tuples, place by place -/
theorem tup_each {i z : List W} {vs vs' : List V} {its its' : List Value} {e : Nat → Bool} {A : Around} {m : Nat} (ih : ∀ (a b : W) (A : Around) (x y : V) (u v : Value) (k : Bool), a.dep ≤ m → RelW X.K μ H a x → RelW X.K μ H b y → RelV nk x u → RelV nk y v → A.units + m < cLine → eqW a b = some k → SeqAt.EqAt A s u v k)
    (r' : RelWs X.K μ H i vs') (r : RelWs X.K μ H z vs) (w' : Vals nk vs' its') (w : Vals nk vs its) (hd : depWs i ≤ m) (hu : A.units + 1 + m < cLine) (h1 : ∀ j (h1 : j < i.length) (h2 : j < z.length), eqW i[j] z[j] = some (e j)) : ∀ j (j1 : j < its'.toArray.size) (j2 : j < its.toArray.size), SeqAt.EqAt A.in1 s its'.toArray[j] its.toArray[j] (e j) := fun j j1 j2 => by
  have j1' : j < i.length := by rw [r'.len, w'.length]; simpa using j1
  have j2' : j < z.length := by rw [r.len, w.length]; simpa using j2
  obtain ⟨x1, g1, q1⟩ := r'.get (List.getElem?_eq_getElem j1')
  obtain ⟨x2, g2, q2⟩ := r.get (List.getElem?_eq_getElem j2')
  obtain ⟨u1, f1, v1⟩ := w'.get g1
  obtain ⟨u2, f2, v2⟩ := w.get g2
  have E := ih i[j] z[j] A.in1 x1 x2 u1 u2 (e j) (Nat.le_trans (depWs_get j1') hd) q1 q2 v1 v2 hu (h1 j j1' j2')
  have t1 : its'.toArray[j] = u1 := by simpa using (List.getElem?_eq_some_iff.mp f1).2
  have t2 : its.toArray[j] = u2 := by simpa using (List.getElem?_eq_some_iff.mp f2).2
  rw [t1, t2]; exact E
theorem eqAt_W (I : Inv X pins σ H s) : ∀ (n : Nat) (a b : W) (A : Around) (x y : V) (u v : Value) (k : Bool), a.dep ≤ n → RelW X.K μ H a x → RelW X.K μ H b y → RelV s.toks x u → RelV s.toks y v → A.units + n < cLine → eqW a b = some k → SeqAt.EqAt A s u v k := by
  intro n
  induction n with
  | zero => exact fun a b A x y u v k hn ra rb ru rv hu he => eqAt_sc (sh_of I ra ru) (sh_of I rb rv) hu (.inr (by omega)) he
  | succ m ih =>
    intro a b A x y u v k hn ra rb ru rv hu he
    by_cases hb : b.dep = 0 ∨ a.dep = 0
    · exact eqAt_sc (sh_of I ra ru) (sh_of I rb rv) (by omega) hb he
    · cases b with
      | tup z =>
        cases a with
        | tup i =>
          obtain ⟨p', vs', rfl, hS', r'⟩ := id ra.tupE; cases ru; obtain ⟨its', w', ht', _⟩ := I.tuple hS'
          obtain ⟨p, vs, rfl, hS, r⟩ := id rb.tupE; cases rv; obtain ⟨its, w, ht, _⟩ := I.tuple hS
          by_cases hpp : p' = p
          · subst hpp
            rw [eqW_self I (m + 1) (.tup i) (.tup z) (.ref p') k hn ra rb he]
            exact SeqAt.EqAt.same _
          · obtain ⟨e, h1, h2⟩ := eqWs_range i z k (by unfold eqW at he; exact he)
            have R := SeqAt.RcAt.tuples (A := A) (e := e) ht' ht (by omega) (tup_each ih r' r w' w (by unfold W.dep at hn; omega) (by omega) h1)
            rw [show its'.toArray.size = i.length by simp [← w'.length, ← r'.len], show its.toArray.size = z.length by simp [← w.length, ← r.len], h2] at R
            exact SeqAt.EqAt.of_refs hpp R
        | _ => exact (hb (.inr rfl)).elim
      | _ => exact (hb (.inl rfl)).elim
theorem rc_tup (I : Inv X pins σ H s) {n : Nat} {a b : W} {A : Around} {x y : V} {u v : Value} {k : Bool} (hn : b.dep = 0 ∨ a.dep ≤ n) (ra : RelW X.K μ H a x) (rb : RelW X.K μ H b y) (ru : RelV s.toks x u) (rv : RelV s.toks y v) (hu : A.units + n < cLine) (he : eqW a b = some k) : SeqAt.RcAt A s u v k ∧ SeqAt.RcNeAt A s u v (!k) := by
  by_cases hb : b.dep = 0 ∨ a.dep = 0
  · exact ⟨rcAt_sc (sh_of I ra ru) (sh_of I rb rv) (by omega) hb he, rcNeAt_sc (sh_of I ra ru) (sh_of I rb rv) (by omega) hb he⟩
  cases b with
  | tup z =>
    cases a with
    | tup i =>
      obtain ⟨p', vs', rfl, hS', r'⟩ := ra.tupE; cases ru; obtain ⟨its', w', ht', _⟩ := I.tuple hS'
      obtain ⟨p, vs, rfl, hS, r⟩ := rb.tupE; cases rv; obtain ⟨its, w, ht, _⟩ := I.tuple hS
      obtain ⟨e, h1, h2⟩ := eqWs_range i z k (by unfold eqW at he; exact he)
      have hd : depWs i + 1 ≤ n := hn.elim (fun z => (hb (.inl z)).elim) id
      obtain ⟨m, rfl⟩ : ∃ m, n = m + 1 := ⟨n - 1, by omega⟩
      have T := tup_each (A := A) (eqAt_W I m) r' r w' w (by omega) (by omega) h1
      have R := SeqAt.RcAt.tuples (A := A) (e := e) ht' ht (by omega) T
      have R2 := SeqAt.RcNeAt.tuples (A := A) (e := e) ht' ht (by omega) T
      rw [show its'.toArray.size = i.length by simp [← w'.length, ← r'.len], show its.toArray.size = z.length by simp [← w.length, ← r.len], h2] at R R2
      exact ⟨R, R2⟩
    | _ => exact (hb (.inr rfl)).elim
  | _ => exact (hb (.inl rfl)).elim
end
/-- a == b -/
def wEq : W → W → List Cell → R W := fun x y st => match eqW x y with
  | some k => if y.dep = 0 ∨ x.dep ≤ 64 then .ok (.bl k) st else .bad
  | none => .bad
theorem w_eq {X : Cx} {k : Nat} (hr : Room k X.A) : OpW X (compareOp .Eq) wEq := ⟨fun pins s σ H x y v u Q I rv ru ⟨μ, st, wx, wy, S, rx, ry, q⟩ => by
  unfold wEq at q
  cases e : eqW wx wy with
  | none => rw [e] at q; exact q.elim
  | some b =>
    rw [e] at q
    simp only at q
    by_cases c : wy.dep = 0 ∨ wx.dep ≤ 64
    · rw [if_pos c] at q
      have := hr.units
      exact (rc_tup I c rx ry rv ru this e).1 X.prog X.w X.xe _ ⟨.bl b, H, I, rfl, okW_bl S q⟩
    · rw [if_neg c] at q; exact q.elim, fun x y st => by
  unfold wEq
  split
  · split <;> trivial
  · trivial⟩
def wNe : W → W → List Cell → R W := fun x y st => match eqW x y with
  | some k => if y.dep = 0 ∨ x.dep ≤ 64 then .ok (.bl (!k)) st else .bad
  | none => .bad
theorem w_ne {X : Cx} {k : Nat} (hr : Room k X.A) : OpW X (compareOp .NotEq) wNe := ⟨fun pins s σ H x y v u Q I rv ru ⟨μ, st, wx, wy, S, rx, ry, q⟩ => by
  unfold wNe at q
  cases e : eqW wx wy with
  | none => rw [e] at q; exact q.elim
  | some b =>
    rw [e] at q
    simp only at q
    by_cases c : wy.dep = 0 ∨ wx.dep ≤ 64
    · rw [if_pos c] at q
      have := hr.units
      exact (rc_tup I c rx ry rv ru this e).2 X.prog X.w X.xe _ ⟨.bl (!b), H, I, rfl, okW_bl S q⟩
    · rw [if_neg c] at q; exact q.elim, fun x y st => by
  unfold wNe
  split
  · split <;> trivial
  · trivial⟩
/-- x among the items of a tuple or a list -/
def anyW (x : W) : List W → Option Bool
  | [] => some false
  | y :: ys => match eqW y x, anyW x ys with
    | some a, some b => some (a || b)
    | _, _ => none
def wIn (neg : Bool) (x y : W) (st : List Cell) : R W := match y with
  | .str l => (match x with
    | .str [c] => .ok (.bl (if neg then !decide (c ∈ l) else decide (c ∈ l))) st
    | _ => .bad)
  | .tup ys => (match anyW x ys with
    | some k => if depWs ys ≤ 63 then .ok (.bl (if neg then !k else k)) st else .bad
    | none => .bad)
  | .loc n => (match st[n]? with
    | some (.lst ys) => (match anyW x ys with
      | some k => if depWs ys ≤ 63 then .ok (.bl (if neg then !k else k)) st else .bad
      | none => .bad)
    | _ => .bad)
  | _ => .bad
theorem anyW_all {x : W} : ∀ {ys : List W} {k : Bool}, anyW x ys = some k → (∀ (j : Nat) w, ys[j]? = some w → ∃ b, eqW w x = some b) ∧ (k = true ↔ ∃ (j : Nat) (w : W), ys[j]? = some w ∧ eqW w x = some true)
  | [], k, h => by
    unfold anyW at h; cases h
    exact ⟨fun j w e => by simp at e, fun z => (by cases z), fun ⟨j, w, e, _⟩ => (by simp at e)⟩
  | y :: ys, k, h => by
    unfold anyW at h
    cases e1 : eqW y x with
    | none => rw [e1] at h; simp at h
    | some a =>
      cases e2 : anyW x ys with
      | none => rw [e1, e2] at h; simp at h
      | some b =>
        rw [e1, e2] at h
        simp at h
        obtain ⟨q1, q2⟩ := anyW_all e2
        refine ⟨fun j w e => ?_, fun z => ?_, fun ⟨j, w, e, f⟩ => ?_⟩
        · cases j with
          | zero => simp at e; subst e; exact ⟨a, e1⟩
          | succ j => exact q1 j w (by simpa using e)
        · rw [← h] at z
          cases a with
          | true => exact ⟨0, y, rfl, e1⟩
          | false =>
            obtain ⟨j, w, p, q⟩ := q2.mp (by simpa using z)
            exact ⟨j + 1, w, by simpa using p, q⟩
        · rw [← h]
          cases j with
          | zero => simp at e; subst e; rw [e1] at f; cases f; rfl
          | succ j => rw [q2.mpr ⟨j, w, by simpa using e, f⟩]; simp
theorem anyW_items {X : Cx} {pins : List (Addr × Obj)} {σ : St} {H : Hp} {s : Shared} {μ : List Addr} (I : Inv X pins σ H s) {wx : W} {x : V} {v : Value} (rx : RelW X.K μ H wx x) (rv : RelV s.toks x v) (n : Nat) {A : Around} (hu : A.units + n < cLine)
    {ys : List W} {vs : List V} {us : List Value} {k : Bool} (hd : depWs ys ≤ n) (rs : RelWs X.K μ H ys vs) (rw' : Vals s.toks vs us) (ha : anyW wx ys = some k) : ∃ e : Value → Bool, (∀ u, u ∈ us.toArray → SeqAt.EqAt A s u v (e u)) ∧ us.toArray.any e = k := by
  classical
  obtain ⟨q1, q2⟩ := anyW_all ha
  have at' : ∀ (j : Nat) (u : Value), us[j]? = some u → ∃ w b, ys[j]? = some w ∧ eqW w wx = some b ∧ SeqAt.EqAt A s u v b := fun j u e => by
    have hj : j < ys.length := by
      have h1 := (List.getElem?_eq_some_iff.mp e).1
      rw [rs.len, rw'.length]; exact h1
    obtain ⟨b, hb⟩ := q1 j ys[j] (List.getElem?_eq_getElem hj)
    obtain ⟨y, g1, r1⟩ := rs.get (List.getElem?_eq_getElem hj)
    obtain ⟨u', f1, v1⟩ := rw'.get g1
    rw [e] at f1; cases f1
    exact ⟨_, b, List.getElem?_eq_getElem hj, hb, eqAt_W I n ys[j] wx A y x u v b (Nat.le_trans (depWs_get hj) hd) r1 rx v1 rv hu hb⟩
  refine ⟨fun u => decide (∃ (j : Nat) (w : W), us[j]? = some u ∧ ys[j]? = some w ∧ eqW w wx = some true), fun u hu => ?_, ?_⟩
  · by_cases c : ∃ (j : Nat) (w : W), us[j]? = some u ∧ ys[j]? = some w ∧ eqW w wx = some true
    · show SeqAt.EqAt A s u v (decide _)
      rw [decide_eq_true c]
      obtain ⟨j, w, e1, e2, e3⟩ := c
      obtain ⟨w', b, f1, f2, f3⟩ := at' j u e1
      rw [e2] at f1; cases f1
      rw [e3] at f2; cases f2
      exact f3
    · show SeqAt.EqAt A s u v (decide _)
      rw [decide_eq_false c]
      obtain ⟨j, hj, e⟩ := List.mem_iff_getElem.mp (show u ∈ us by simpa using hu)
      have e' : us[j]? = some u := by rw [List.getElem?_eq_getElem hj, e]
      obtain ⟨w', b, f1, f2, f3⟩ := at' j u e'
      cases b with
      | false => exact f3
      | true => exact absurd ⟨j, w', e', f1, f2⟩ c
  · rw [List.any_toArray]
    cases k with
    | true =>
      obtain ⟨j, w, e1, e2⟩ := q2.mp rfl
      have hj : j < us.length := by rw [← rw'.length, ← rs.len]; exact (List.getElem?_eq_some_iff.mp e1).1
      exact List.any_eq_true.mpr ⟨us[j], List.getElem_mem hj, decide_eq_true ⟨j, w, List.getElem?_eq_getElem hj, e1, e2⟩⟩
    | false =>
      refine List.any_eq_false.mpr fun u _ c => ?_
      obtain ⟨j, w, _, e1, e2⟩ := of_decide_eq_true c
      have := q2.mpr ⟨j, w, e1, e2⟩
      cases this
theorem w_in {X : Cx} {k : Nat} (hr : Room k X.A) : OpW X (compareOp .In) (wIn false) := ⟨fun pins s σ H x y v u Q I rv ru ⟨μ, st, wx, wy, S, rx, ry, q⟩ => by
  have hu := hr.units
  cases wy with
  | str l =>
    simp only [wIn] at q
    split at q
    · exact op_in_one pins s σ H x y v u Q I rv ru ⟨_, _, rx.strE, ry.strE, okW_bl S q⟩
    · exact q.elim
  | tup ys =>
    simp only [wIn] at q
    cases hk : anyW wx ys with
    | none => rw [hk] at q; exact q.elim
    | some kk =>
      rw [hk] at q
      simp only at q
      by_cases c : depWs ys ≤ 63
      · rw [if_pos c] at q
        obtain ⟨p, vs, rfl, hS, r⟩ := ry.tupE
        cases ru
        obtain ⟨its, w, ht, _⟩ := I.tuple hS
        obtain ⟨e, he, ha⟩ := anyW_items (A := X.A.in1) I rx rv 63 (by show X.A.units + 1 + 63 < cLine; omega) c r w hk
        exact SeqAt.in_tupleAt e ht he ⟨.bl _, H, I, rfl, by rw [ha]; exact okW_bl S q⟩
      · rw [if_neg c] at q; exact q.elim
  | loc n =>
    simp only [wIn] at q
    cases e1 : st[n]? with
    | none => rw [e1] at q; exact q.elim
    | some cc =>
      rw [e1] at q
      cases cc with
      | lst ys =>
        simp only at q
        cases hk : anyW wx ys with
        | none => rw [hk] at q; exact q.elim
        | some kk =>
          rw [hk] at q
          simp only at q
          by_cases c : depWs ys ≤ 63
          · rw [if_pos c] at q
            obtain ⟨a1, g1, vs, k1, r⟩ := S.get e1
            obtain ⟨b1, f1, rfl⟩ := ry.locE
            rw [g1] at f1; cases f1
            cases ru
            obtain ⟨its, w, ht, _⟩ := I.list (SqL.of k1)
            obtain ⟨e, he, ha⟩ := anyW_items (A := X.A.in1) I rx rv 63 (by show X.A.units + 1 + 63 < cLine; omega) c r w hk
            exact SeqAt.in_listAt e ht.isList he ⟨.bl _, H, I, rfl, by rw [ha]; exact okW_bl S q⟩
          · rw [if_neg c] at q; exact q.elim
      | _ => exact q.elim
  | _ => exact q.elim, fun x y st => by
  unfold wIn
  repeat' split
  all_goals trivial⟩
end L2
set_option Elab.async false
set_option linter.all false
set_option maxRecDepth 100000
set_option maxHeartbeats 4000000
namespace L2
open PySem PySem.Spec PyProof.Rows
section
variable {prog : Program} {w : World} {A : Around} {E : Value → Shared → Prop} {s : Shared}
theorem slice_whole {t sl : Addr} {items : Array Value} {vl vu : Value} {lo hi : Option Int} {Q : Value → Shared → Prop} (ht : IsTup s.heap t items) (hs : s.heap.IsSliceOf sl vl vu .none) (pl : IsPart vl lo) (pu : IsPart vu hi)
    (hw : HT.sIx items.size 0 lo = 0 ∧ HT.sIx items.size items.size hi = items.size) (h : Q (.ref t) s) : wpAny (model prog w) A (getItem (.ref t) (.ref sl)) Q E s := by
  obtain ⟨os, hos, hcs, hds⟩ := id hs
  have hTs : s.TypeIs (.ref sl) "slice" := ⟨os, hos, hcs⟩
  unfold getItem
  try with_reducible refine wpAny_holding ?_
  first | refine wpAny_bind (wpAny_pure ?_) | skip
  refine wpAny_bind (wpAny_sequenceKey ht.typeIs (by decide) ?_)
  refine wpAny_bind (wpAny_callSpecial?_slot (name := Str.ofString "__getitem__") ht.typeIs PyProof.Rows.slot_tuple_getitem
    (wpAny_call_entry PyProof.Rows.slot_tuple_getitem ht.typeIs entry_tuple_getitem ?_ (args_tuple_getitem _ _)))
  show wpAny _ _ (Builtin.Tuple.tupleItemsOf (.ref t) >>= _) _ _ s
  refine wpAny_bind (tupleItemsOf_ ht ?_)
  refine wpAny_bind (wpAny_typeOf hTs ?_)
  rw [if_pos (by decide)]
  refine wpAny_bind (HT.sliceApplied_gen hs pl pu ?_)
  have hyes : (((HT.sIx items.size 0 lo : Nat) : Int) == 0 && (1 : Int) == 1 && (HT.sIx items.size items.size hi - HT.sIx items.size 0 lo) == items.size) = true := by
    rw [hw.1, hw.2]; simp
  show wpAny _ _ (if (((HT.sIx items.size 0 lo : Nat) : Int) == 0 && (1 : Int) == 1 && (HT.sIx items.size items.size hi - HT.sIx items.size 0 lo) == items.size) = true then _ else _) _ _ s
  rw [if_pos hyes]
  unfold Builtin.Tuple.tupleIsExact
  obtain ⟨ot, hot, hct, nt, hdt⟩ := id ht
  refine wpAny_bind (wpAny_bind (wpAny_typeOf (T := "tuple") ht.typeIs ?_))
  refine wpAny_pure ?_
  rw [if_pos (by decide)]
  exact wpAny_bind (wpAny_rule (wpAny_pure ⟨_, rfl, wpAny_pure h⟩))
end
section
variable {X : Cx} {a b c e o : Expr} {es : List Expr} {pos p p2 apos cpos : Pos} {x name : Str} {j : Nat} {fa fb fc fe : FE} {fs : FA}
def lstOf (st : List Cell) (n : Nat) : Option (List W) := match st[n]? with
  | some (.lst ws) => some ws
  | some (.ro ws) => some ws
  | _ => none
theorem StR.lstOf {K : PySem.W.Frag} {mg : Str → Option Value} {μ : List Addr} {st : List Cell} {H : Hp} (S : StR K mg μ st H) {n : Nat} {ws : List W} (h : lstOf st n = some ws) : ∃ a vs, μ[n]? = some a ∧ SqL K H a vs ∧ RelWs K μ H ws vs := by
  unfold L2.lstOf at h
  cases e : st[n]? with
  | none => rw [e] at h; cases h
  | some cc =>
    rw [e] at h
    cases cc with
    | lst zs => cases h; obtain ⟨a, g, vs, k, r⟩ := S.get e; exact ⟨a, vs, g, SqL.of k, r⟩
    | ro zs => cases h; obtain ⟨a, g, vs, k, r⟩ := S.get e; exact ⟨a, vs, g, k.sq, r⟩
    | exc zs => cases h
    | dct zs => cases h
    | rod zs => cases h
    | dcx zs => cases h
    | rox zs => cases h
    | obj _ _ => cases h
    | tab _ _ _ => cases h
    | pin _ _ _ _ => cases h
    | gone => cases h
def ofO {α : Type} (o : Option α) (k : α → R W) : R W := match o with
  | some a => k a
  | none => .bad
@[simp] theorem ofO_some {α : Type} (a : α) (k : α → R W) : ofO (some a) k = k a := rfl
@[simp] theorem ofO_none {α : Type} (k : α → R W) : ofO none k = .bad := rfl
def wIx (x y : W) (st : List Cell) : R W := match x, y with
  | .tup ws, .int i => ofO (atI ws i) fun w => .ok w st
  | .str l, .int i => if l.length ≤ LIM then ofO (atI l i) (fun c => .ok (.str [c]) st) else .bad
  | .loc n, .int i => ofO (lstOf st n) fun ws => ofO (atI ws i) fun w => .ok w st
  | _, _ => .bad
theorem atI_rel {K : PySem.W.Frag} {μ : List Addr} {H : Hp} {ws : List W} {vs : List V} {i : Int} {w : W} (r : RelWs K μ H ws vs) (h : atI ws i = some w) : ∃ v, atI vs i = some v ∧ RelW K μ H w v := by
  unfold atI at h ⊢
  rw [← r.len]
  cases e : ixN ws.length i with
  | none => rw [e] at h; cases h
  | some k => rw [e] at h; exact r.get h
theorem w_ix : IxR X (rW2 X wIx) := fun value slice pins s σ H x y v u Q I rv ru ⟨μ, st, wx, wy, S, rx, ry, q⟩ hs => by
  refine ix_seq value slice pins s σ H x y v u Q I rv ru ?_ hs
  cases wy with
  | int i =>
    cases wx with
    | tup ws =>
      simp only [wIx] at q
      cases e1 : atI ws i with
      | none => rw [e1] at q; exact q.elim
      | some w =>
        rw [e1] at q
        obtain ⟨p, vs, rfl, hS, r⟩ := rx.tupE
        obtain ⟨z, f, g⟩ := atI_rel r e1
        exact .inr (.inl ⟨p, vs, i, z, rfl, ry.intE, hS, f, q μ z H (List.prefix_refl _) Ext.refl S g⟩)
    | str l =>
      simp only [wIx] at q
      by_cases c : l.length ≤ LIM
      · rw [if_pos c] at q
        cases e1 : atI l i with
        | none => rw [e1] at q; exact q.elim
        | some w =>
          rw [e1] at q
          exact .inr (.inr ⟨_, i, w, rx.strE, ry.intE, by rw [tx_len]; exact lim_le c, by rw [tx_cps]; exact e1, okW_str S q⟩)
      · rw [if_neg c] at q; exact q.elim
    | loc n =>
      simp only [wIx] at q
      cases e0 : lstOf st n with
      | none => rw [e0] at q; exact q.elim
      | some ws =>
        rw [e0] at q
        cases e1 : atI ws i with
        | none => rw [ofO_some, e1] at q; exact q.elim
        | some w =>
          rw [ofO_some, e1] at q
          obtain ⟨a, vs, g, hS, r⟩ := S.lstOf e0
          obtain ⟨b1, f1, rfl⟩ := rx.locE
          rw [g] at f1; cases f1
          obtain ⟨z, f, g⟩ := atI_rel r e1
          exact .inl ⟨_, vs, i, z, rfl, ry.intE, hS, f, q μ z H (List.prefix_refl _) Ext.refl S g⟩
    | _ => exact q.elim
  | _ => cases wx <;> exact q.elim
theorem ofO_n {α : Type} {o : Option α} {k : α → R W} (h : ∀ a, noEx (k a)) : noEx (ofO o k) := by
  unfold ofO
  split
  · exact h _
  · trivial
theorem wIx_n (x y : W) (st : List Cell) : noEx (wIx x y st) := by
  unfold wIx
  split
  · exact ofO_n fun _ => trivial
  · split
    · exact ofO_n fun _ => trivial
    · trivial
  · exact ofO_n fun _ => ofO_n fun _ => trivial
  · trivial
theorem s_ix (ha : SE X a fa) (hb : SE X b fb) (hs : PlainIx b := by intro _ _; rfl) : SE X (.Subscript a b pos) (e2 wIx fa fb) := ⟨(pe_ix w_ix ha.h hb.h hs).imp fun _ _ _ h => e2_op wIx_n h⟩
abbrev FO := EnvW → List Cell → R (Option Int)
abbrev relO : List Addr → Hp → Option Int → Option Int → Prop := fun _ _ a b => a = b
structure SO (X : Cx) (e : Option Expr) (f : FO) : Prop where
  h : PO X e (tG X relO f)
def oNone : FO := fun _ st => .ok none st
def oSome (fa : FE) : FO := fun ρ st => (fa ρ st).bind fun x st => match x with
  | .int i => .ok (some i) st
  | _ => .bad
theorem PO.imp {X : Cx} {e : Option Expr} {t t' : TO} (h : PO X e t) (i : ∀ σ H Q, t' σ H Q → t σ H Q) : PO X e t' := fun pins s σ H Q I q => h pins s σ H Q I (i _ _ _ q)
theorem so_none : SO X none oNone := ⟨po_none.imp fun σ H Q h => by
  obtain ⟨μ, ρ, st, l, h⟩ := h
  exact h μ none H (List.prefix_refl _) Ext.refl l.sto rfl⟩
theorem so_some (ha : SE X a fa) : SO X (some a) (oSome fa) := ⟨(po_some ha.h).imp fun σ H Q h => by
  obtain ⟨μ, ρ, st, l, h⟩ := h
  refine ⟨μ, ρ, st, l, RK.bind h l fun μ1 st1 x v H1 p1 x1 l1 q1 h1 => ?_⟩
  cases x with
  | int k => exact ⟨k, q1.intE, h1 μ1 _ H1 (List.prefix_refl _) Ext.refl l1.sto rfl⟩
  | _ => exact h1.elim⟩
def cutW {α : Type} (xs : List α) (lo hi : Option Int) : List α := (xs.drop (HT.sIx xs.length 0 lo)).take (HT.sIx xs.length xs.length hi - HT.sIx xs.length 0 lo)
def wSl (x : W) (lo hi : Option Int) (st : List Cell) : R W := match x with
  | .tup ws => .ok (.tup (cutW ws lo hi)) st
  | .str l => if l.length ≤ LIM then .ok (.str (cutW l lo hi)) st else .bad
  | .loc n => ofO (lstOf st n) fun ws => .ok (.loc st.length) (st ++ [.lst (cutW ws lo hi)])
  | _ => .bad
theorem wSl_n (x : W) (lo hi : Option Int) (st : List Cell) : noEx (wSl x lo hi st) := by
  unfold wSl ofO
  repeat' split
  all_goals trivial
def eSl (fa : FE) (fl fh : FO) : FE := fun ρ st => (fa ρ st).bind fun x st => (fl ρ st).bind fun l st => (fh ρ st).bind fun h st => wSl x l h st
theorem w_sl : SlR X (fun x lo hi H Q => ∃ μ st wx, StR X.K X.mg μ st H ∧ RelW X.K μ H wx x ∧ OkW X μ H Q (wSl wx lo hi st)) := by
  intro pins s σ H x v vl vu lo hi sl Q I rv hs pl pu ⟨μ, st, wx, S, rx, q⟩
  cases wx with
  | tup ws =>
    obtain ⟨p, vs, rfl, hS, r⟩ := rx.tupE
    have hl := r.len
    by_cases hw : HT.sIx vs.length 0 lo = 0 ∧ HT.sIx vs.length vs.length hi = vs.length
    · cases rv
      obtain ⟨its, w, ht, hz⟩ := I.tuple hS
      have hlen : its.toArray.size = vs.length := by rw [List.size_toArray]; exact w.length.symm
      refine ⟨"tuple", _, PyProof.Rows.slot_tuple_getitem.lookup, ht.typeIs, slice_whole ht hs pl pu (by rw [hlen]; exact hw) ⟨.ref p, H, I, rfl, ?_⟩⟩
      have e : cutW ws lo hi = ws := by
        unfold cutW
        rw [hl, hw.1, hw.2, List.drop_zero, Nat.sub_zero, ← hl, List.take_length]
      have q' : OkW X μ H Q (.ok (.tup (cutW ws lo hi)) st) := q
      rw [e] at q'
      exact q' μ _ H (List.prefix_refl _) Ext.refl S rx
    · refine sl_tup pins s σ H _ v vl vu lo hi sl Q I rv hs pl pu ⟨p, vs, rfl, hS, hw, fun p2 hp2 => ?_⟩
      have x := SqT.same (K := X.K) (same_new hp2 (.tup (cutV vs lo hi)))
      have rc : RelWs X.K μ H (cutW ws lo hi) (cutV vs lo hi) := by
        unfold cutW cutV
        rw [hl]
        exact (r.drop _).take _
      exact q μ _ _ (List.prefix_refl _) x (S.same (same_new hp2 _)) (.tupI SqT.new (rc.mono (List.prefix_refl _) x))
  | str l =>
    simp only [wSl] at q
    by_cases c : l.length ≤ LIM
    · rw [if_pos c] at q
      exact sl_str pins s σ H _ v vl vu lo hi sl Q I rv hs pl pu ⟨l, rx.strE, lim_le c, okW_str S q⟩
    · rw [if_neg c] at q; exact q.elim
  | loc n =>
    simp only [wSl] at q
    cases e0 : lstOf st n with
    | none => rw [e0] at q; exact q.elim
    | some ws =>
      rw [e0] at q
      obtain ⟨a, vs, g, hS, r⟩ := S.lstOf e0
      obtain ⟨b1, f1, rfl⟩ := rx.locE
      rw [g] at f1; cases f1
      have hl := r.len
      refine sl_list pins s σ H _ v vl vu lo hi sl Q I rv hs pl pu ⟨_, vs, rfl, hS, fun p2 hp2 => ?_⟩
      have rc : RelWs X.K μ H (cutW ws lo hi) (cutV vs lo hi) := by
        unfold cutW cutV
        rw [hl]
        exact (r.drop _).take _
      exact q (μ ++ [p2]) _ _ (List.prefix_append _ _) (SqT.same (same_new hp2 _)) (S.newLst hp2 rc) (newLoc S)
  | _ => exact q.elim
theorem s_sl {lo hi : Option Expr} {fl fh : FO} (ha : SE X a fa) (hl : SO X lo fl) (hh : SO X hi fh) : SE X (.Subscript a (.Slice lo hi none p2) pos) (eSl fa fl fh) := ⟨(pe_slice w_sl ha.h hl.h hh.h).imp fun σ H Q h => by
  obtain ⟨μ, ρ, st, l, h⟩ := h
  refine ⟨μ, ρ, st, l, RK.bind h l fun μ1 st1 x v H1 p1 x1 l1 q1 h1 => ⟨μ1, ρ, st1, l1, RK.bind h1 l1 fun μ2 st2 y u H2 p2 x2 l2 q2 h2 => ⟨μ2, ρ, st2, l2, RK.bind h2 l2 fun μ3 st3 z t H3 p3 x3 l3 q3 h3 => ?_⟩⟩⟩
  cases q2; cases q3
  exact ⟨μ3, st3, x, l3.sto, (q1.mono p2 x2).mono p3 x3, okW_of h3 (wSl_n _ _ _ _)⟩⟩
def rWA (X : Cx) (F : List W → List Cell → R W) : List V → Hp → VK → Prop := fun vs H Q => ∃ μ st ws, StR X.K X.mg μ st H ∧ RelWs X.K μ H ws vs ∧ OkW X μ H Q (F ws st)
structure CallW (X : Cx) (f : Value) (F : List W → List Cell → R W) : Prop where
  h : CallR X f (rWA X F)
  n : ∀ ws st, noEx (F ws st)
def eCall (F : List W → List Cell → R W) (fs : FA) : FE := fun ρ st => (fs ρ st).bind fun ws st => F ws st
theorem eCall_t {F : List W → List Cell → R W} {σ : St} {H : Hp} {Q : VK} (n : ∀ ws st, noEx (F ws st)) (h : tE X (eCall F fs) σ H Q) : tCB (rWA X F) (tA' X fs) σ H Q := by
  obtain ⟨μ, ρ, st, l, h⟩ := h
  exact ⟨μ, ρ, st, l, RK.bind h l fun μ1 st1 x v H1 p1 x1 l1 q1 h1 => ⟨μ1, st1, x, l1.sto, q1, okW_of h1 (n _ _)⟩⟩
theorem s_callB {id : String} {F : List W → List Cell → R W} (hc : CallW X (.builtin id) F) (hm : X.mg x = none) (hv : bootBuiltins x = some (.builtin id)) (ha : SA X (e :: es) fs) (hg : Gl X x := by rfl) (hn : x ≠ "__name__" := by decide) (hdb : (x == ("__debug__" : Str)) = false := by decide)
    (he : starEach (e :: es) X.env = (false, eval e X.env) :: starEach es X.env := by rfl) (hpl : (backTo pos (starEach es X.env)).any (·.1) = false := by rfl) : SE X (.Call (.Name x p) (e :: es) [] pos) (eCall F fs) := ⟨(pe_callB hc.h hg hm hv ha.h hn hdb he hpl).imp fun _ _ _ h => eCall_t hc.n h⟩
theorem s_callTy {T : String} {F : List W → List Cell → R W} (hc : CallW X (.type T) F) (hm : X.mg x = none) (hv : bootBuiltins x = some (.type T)) (ha : SA X (e :: es) fs) (hg : Gl X x := by rfl) (hn : x ≠ "__name__" := by decide) (hdb : (x == ("__debug__" : Str)) = false := by decide)
    (he : starEach (e :: es) X.env = (false, eval e X.env) :: starEach es X.env := by rfl) (hpl : (backTo pos (starEach es X.env)).any (·.1) = false := by rfl) : SE X (.Call (.Name x p) (e :: es) [] pos) (eCall F fs) := ⟨(pe_callTy hc.h hg hm hv ha.h hn hdb he hpl).imp fun _ _ _ h => eCall_t hc.n h⟩
theorem RelWs.two {K : PySem.W.Frag} {μ : List Addr} {H : Hp} {a b : W} {vs : List V} (r : RelWs K μ H [a, b] vs) : ∃ x y, vs = [x, y] ∧ RelW K μ H a x ∧ RelW K μ H b y := by
  obtain ⟨x, xs, rfl, rx, rn⟩ := r.consE
  obtain ⟨y, ys, rfl, ry, rm⟩ := rn.consE
  rw [rm.nilE]; exact ⟨x, y, rfl, rx, ry⟩
theorem RelWs.one {K : PySem.W.Frag} {μ : List Addr} {H : Hp} {a : W} {vs : List V} (r : RelWs K μ H [a] vs) : ∃ x, vs = [x] ∧ RelW K μ H a x := by
  obtain ⟨x, xs, rfl, rx, rn⟩ := r.consE
  rw [rn.nilE]; exact ⟨x, rfl, rx⟩
def bLen (ws : List W) (st : List Cell) : R W := match ws with
  | [.tup xs] => .ok (.int xs.length) st
  | [.str l] => if l.length ≤ LIM then .ok (.int l.length) st else .bad
  | [.loc n] => ofO (lstOf st n) fun xs => .ok (.int xs.length) st
  | _ => .bad
theorem b_len : CallW X (.builtin "len") bLen := ⟨fun pins s σ H vs us Q I rv ⟨μ, st, ws, S, r, q⟩ => by
  unfold bLen at q
  split at q
  · obtain ⟨x, rfl, rx⟩ := r.one
    obtain ⟨p, ys, rfl, hS, r'⟩ := rx.tupE
    exact call_len_seq pins s σ H _ us Q I rv ⟨p, ys, rfl, .inr hS, by rw [← r'.len]; exact okW_int S q⟩
  · obtain ⟨x, rfl, rx⟩ := r.one
    split at q
    · rename_i c
      exact call_len_str pins s σ H _ us Q I rv ⟨_, by rw [rx.strE], by rw [tx_len]; exact lim_le c, by rw [tx_len]; exact okW_int S q⟩
    · exact q.elim
  · obtain ⟨x, rfl, rx⟩ := r.one
    unfold ofO at q
    split at q
    · rename_i ys e0
      obtain ⟨a, vs, g, hS, r'⟩ := S.lstOf e0
      obtain ⟨b1, f1, rfl⟩ := rx.locE
      rw [g] at f1; cases f1
      exact call_len_seq pins s σ H _ us Q I rv ⟨_, vs, rfl, .inl hS, by rw [← r'.len]; exact okW_int S q⟩
    · exact q.elim
  · exact q.elim, fun ws st => by
  unfold bLen ofO
  repeat' split
  all_goals trivial⟩
/-- tuple(x), list(x) -/
def bTuple (ws : List W) (st : List Cell) : R W := match ws with
  | [.tup xs] => .ok (.tup xs) st
  | [.loc n] => ofO (lstOf st n) fun xs => .ok (.tup xs) st
  | _ => .bad
theorem b_tuple : CallW X (.type "tuple") bTuple := ⟨fun pins s σ H vs us Q I rv ⟨μ, st, ws, S, r, q⟩ => by
  unfold bTuple at q
  split at q
  · obtain ⟨x, rfl, rx⟩ := r.one
    obtain ⟨p, ys, rfl, hS, r'⟩ := id rx.tupE
    exact call_tupleT pins s σ H _ us Q I rv ⟨p, ys, rfl, hS, q μ _ H (List.prefix_refl _) Ext.refl S rx⟩
  · obtain ⟨x, rfl, rx⟩ := r.one
    unfold ofO at q
    split at q
    · rename_i ys e0
      obtain ⟨a, vs, g, hS, r'⟩ := S.lstOf e0
      obtain ⟨b1, f1, rfl⟩ := rx.locE
      rw [g] at f1; cases f1
      refine call_tupleL pins s σ H _ us Q I rv ⟨_, vs, rfl, hS, fun l H2 hl e => ?_⟩
      subst e
      have x := SqT.same (K := X.K) (same_new hl (.tup vs))
      exact q μ _ _ (List.prefix_refl _) x (S.same (same_new hl _)) (.tupI SqT.new (r'.mono (List.prefix_refl _) x))
    · exact q.elim
  · exact q.elim, fun ws st => by
  unfold bTuple ofO
  repeat' split
  all_goals trivial⟩
def bInt (ws : List W) (st : List Cell) : R W := match ws with
  | [.int i] => .ok (.int i) st
  | [.bl k] => .ok (.int (if k then 1 else 0)) st
  | _ => .bad
theorem b_int : CallW X (.type "int") bInt := ⟨fun pins s σ H vs us Q I rv ⟨μ, st, ws, S, r, q⟩ => by
  unfold bInt at q
  split at q
  · obtain ⟨x, rfl, rx⟩ := r.one
    exact call_int1 pins s σ H _ us Q I rv (.inl ⟨_, by rw [rx.intE], okW_int S q⟩)
  · obtain ⟨x, rfl, rx⟩ := r.one
    exact call_int1 pins s σ H _ us Q I rv (.inr ⟨_, by rw [rx.blE], okW_int S q⟩)
  · exact q.elim, fun ws st => by unfold bInt; split <;> trivial⟩
end
end L2
set_option Elab.async false
set_option linter.all false
set_option maxRecDepth 100000
set_option maxHeartbeats 4000000
namespace L2
open PySem PySem.Spec PyProof.Rows
section
variable {X : Cx} {a b c e o : Expr} {es : List Expr} {pos p p2 apos cpos : Pos} {x name : Str} {j : Nat} {fa fb fc fe : FE} {fs : FA} {ft : FT} {st1 : Stmt} {sr sa sb : List Stmt} {g g' : FS}
def xSeq (g g' : FS) : FS := fun ρ st => match g ρ st with
  | .nx ρ' st' => g' ρ' st'
  | r => r
def xNext : FS := fun ρ st => .nx ρ st
theorem sb_nil : SB X [] xNext := ⟨pss_nil.imp fun D σ H h => by
  obtain ⟨μ, ρ, st, l, h⟩ := h
  exact h μ σ H (List.prefix_refl _) Ext.refl l⟩
theorem sb_one (h1 : SS X st1 g) : SB X [st1] g := ⟨pss_one h1.h⟩
theorem sb_cons (h1 : SS X st1 g) (h2 : SB X sr g') : SB X (st1 :: sr) (xSeq g g') := ⟨(pss_cons h1.h h2.h).imp fun D σ H h => by
  obtain ⟨μ, ρ, st, l, h⟩ := h
  refine ⟨μ, ρ, st, l, ?_⟩
  unfold xSeq at h
  cases e : g ρ st with
  | nx ρ' st' => rw [e] at h; exact fun μ' σ' H' p x l' => ⟨μ', ρ', st', l', SK.mono h p x⟩
  | rt w st' => rw [e] at h; exact h
  | bk ρ' st' => rw [e] at h; exact h
  | ct ρ' st' => rw [e] at h; exact h
  | ex c ρ' st' => rw [e] at h; exact h
  | bad => rw [e] at h; exact h⟩
def R.stmt {α : Type} (r : R α) (ρ : EnvW) (k : α → List Cell → RS) : RS := match r with
  | .ok a st => k a st
  | .ex c st => .ex c ρ st
  | .bad => .bad
@[simp] theorem R.stmt_ok {α : Type} (a : α) (st : List Cell) (ρ : EnvW) (k : α → List Cell → RS) : (R.ok a st).stmt ρ k = k a st := rfl
@[simp] theorem R.stmt_ex {α : Type} (c : Str) (st : List Cell) (ρ : EnvW) (k : α → List Cell → RS) : (R.ex c st : R α).stmt ρ k = .ex c ρ st := rfl
@[simp] theorem R.stmt_bad {α : Type} (ρ : EnvW) (k : α → List Cell → RS) : (R.bad : R α).stmt ρ k = .bad := rfl
/-- a part within a statement -/
theorem RK.stmt {α β : Type} {rel : List Addr → Hp → α → β → Prop} {μ : List Addr} {ρ : EnvW} {st : List Cell} {σ : St} {H : Hp} {D : Ends} {r : R α} {k : α → List Cell → RS} {T : β → Hp → Prop}
    (h : SK X μ H D (r.stmt ρ k)) (l : Rl X μ ρ st σ H)
    (hk : ∀ μ' st' x v H', μ <+: μ' → Ext X.K H H' → Rl X μ' ρ st' σ H' → rel μ' H' x v → SK X μ' H' D (k x st') → T v H') : RK X rel μ σ H T r := by
  cases r with
  | ok a st' => exact fun μ' b H' p x s q => hk μ' st' a b H' p x (l.to p x s) q (SK.mono h p x)
  | ex c st' => exact XS.toE h l
  | bad => exact h
def xExpr (fe : FE) : FS := fun ρ st => (fe ρ st).stmt ρ fun _ st => .nx ρ st
theorem ss_expr (he : SE X e fe) (hs : swapsWith e none pos.line X.env = pure false := by rfl) : SS X (.Expr e pos) (xExpr fe) := ⟨(ps_expr he.h hs).imp fun D σ H h => by
  obtain ⟨μ, ρ, st, l, h⟩ := h
  exact ⟨μ, ρ, st, l, RK.stmt h l fun μ1 st1 x v H1 p1 x1 l1 q1 h1 => h1 μ1 σ H1 (List.prefix_refl _) Ext.refl l1⟩⟩
def xRet (fe : FE) : FS := fun ρ st => (fe ρ st).stmt ρ fun w st => .rt w st
theorem ss_ret (he : SE X e fe) : SS X (.Return (some e) pos) (xRet fe) := ⟨(ps_ret he.h).imp fun D σ H h => by
  obtain ⟨μ, ρ, st, l, h⟩ := h
  exact ⟨μ, ρ, st, l, RK.stmt h l fun μ1 st1 x v H1 p1 x1 l1 q1 h1 => h1 μ1 v H1 (List.prefix_refl _) Ext.refl l1.sto q1⟩⟩
def xIf (t : FT) (g g' : FS) : FS := fun ρ st => (t ρ st).stmt ρ fun k st => if k then g ρ st else g' ρ st
theorem ss_if (hc : ST X c ft) (ha : SB X sa g) (hb : SB X sb g') : SS X (.If c sa sb pos) (xIf ft g g') := ⟨(ps_if hc.h ha.h hb.h).imp fun D σ H h => by
  obtain ⟨μ, ρ, st, l, h⟩ := h
  refine ⟨μ, ρ, st, l, RK.stmt h l fun μ1 st1 x v H1 p1 x1 l1 q1 h1 => ?_⟩
  cases q1
  cases x with
  | true => exact ⟨μ1, ρ, st1, l1, h1⟩
  | false => exact ⟨μ1, ρ, st1, l1, h1⟩⟩
abbrev FG := W → EnvW → Option EnvW
abbrev FGs := List W → EnvW → Option EnvW
def tTg (X : Cx) (f : FG) : TG := fun v σ H Q => ∃ μ ρ st w ρ', Rl X μ ρ st σ H ∧ RelW X.K μ H w v ∧ f w ρ = some ρ' ∧ ∀ σ', Rl X μ ρ' st σ' H → Q σ' H
def tTgs (X : Cx) (f : FGs) : TGs := fun vs σ H Q => ∃ μ ρ st ws ρ', Rl X μ ρ st σ H ∧ RelWs X.K μ H ws vs ∧ f ws ρ = some ρ' ∧ ∀ σ', Rl X μ ρ' st σ' H → Q σ' H
theorem PG.imp {X : Cx} {e : Expr} {t t' : TG} (h : PG X e t) (i : ∀ v σ H Q, t' v σ H Q → t v σ H Q) : PG X e t' := fun pins s σ H x u Q I r q => h pins s σ H x u Q I r (i _ _ _ _ q)
theorem PGs.imp {X : Cx} {e : List Expr} {t t' : TGs} (h : PGs X e t) (i : ∀ v σ H Q, t' v σ H Q → t v σ H Q) : PGs X e t' := fun pins s σ H x u Q I r q => h pins s σ H x u Q I r (i _ _ _ _ q)
structure SG (X : Cx) (e : Expr) (f : FG) : Prop where
  h : PG X e (tTg X f)
structure SGs (X : Cx) (e : List Expr) (f : FGs) : Prop where
  h : PGs X e (tTgs X f)
def gNm (i : Nat) : FG := fun w ρ => some (ρ.set i (some w))
theorem sg_name {i : Nat} (hN : X.N.Nodup) (hi : X.N[i]? = some x) (hx : Loc X.env.scope x) (hf : X.fn x = true ∨ X.env.scope.names.lookup x = some .local := by first | exact .inl rfl | exact .inr rfl | assumption) : SG X (.Name x pos) (gNm i) := ⟨(pg_name hN hi hx hf).imp fun v σ H Q h => by
  obtain ⟨μ, ρ, st, w, ρ', l, r, e, q⟩ := h
  cases e
  exact q _ ⟨envR_set r i l.env, l.sto⟩⟩
def gsNil : FGs := fun ws ρ => match ws with
  | [] => some ρ
  | _ => none
def gsCons (f : FG) (fs : FGs) : FGs := fun ws ρ => match ws with
  | w :: ws => (f w ρ).bind fun ρ' => fs ws ρ'
  | [] => none
theorem sgs_nil : SGs X [] gsNil := ⟨pgs_nil.imp fun vs σ H Q h => by
  obtain ⟨μ, ρ, st, ws, ρ', l, r, e, q⟩ := h
  cases ws with
  | nil => cases e; exact ⟨r.nilE, q σ l⟩
  | cons _ _ => cases e⟩
theorem sgs_cons {f : FG} {fs : FGs} (h1 : SG X e f) (h2 : SGs X es fs) (hs : (assignEach (e :: es) X.env).map (·.2) = assign e X.env :: (assignEach es X.env).map (·.2) := by rfl) : SGs X (e :: es) (gsCons f fs) := ⟨(pgs_cons h1.h h2.h hs).imp fun vs σ H Q h => by
  obtain ⟨μ, ρ, st, ws, ρ', l, r, e, q⟩ := h
  cases ws with
  | nil => cases e
  | cons w ws =>
    obtain ⟨x, xs, rfl, rx, rs⟩ := r.consE
    simp only [gsCons] at e
    cases e1 : f w ρ with
    | none => rw [e1] at e; cases e
    | some ρ1 =>
      rw [e1] at e
      exact ⟨x, xs, rfl, μ, ρ, st, w, ρ1, l, rx, e1, fun σ1 l1 => ⟨μ, ρ1, st, ws, ρ', l1, rs, e, q⟩⟩⟩
def gTp (n : Nat) (fs : FGs) : FG := fun w ρ => match w with
  | .tup ws => if ws.length = n then fs ws ρ else none
  | _ => none
theorem sg_tup {k n : Nat} {fs : FGs} (hc : X.calm = true) (h : SGs X es fs) (hn : (assignEach es X.env).length = n := by rfl) (hst : (assignEach es X.env).findIdx? (·.1) = none := by rfl) : SG X (.Tuple es k pos) (gTp n fs) := ⟨(pg_tup hc h.h hn hst).imp fun v σ H Q h => by
  obtain ⟨μ, ρ, st, w, ρ', l, r, e, q⟩ := h
  cases w with
  | tup ws =>
    obtain ⟨p, vs, rfl, hS, rs⟩ := r.tupE
    simp only [gTp] at e
    by_cases c : ws.length = n
    · rw [if_pos c] at e
      exact ⟨p, vs, rfl, hS, by rw [← rs.len]; exact c, μ, ρ, st, ws, ρ', l, rs, e, q⟩
    · rw [if_neg c] at e; cases e
  | _ => cases e⟩
def xAsg (fe : FE) (f : FG) : FS := fun ρ st => (fe ρ st).stmt ρ fun w st => match f w ρ with
  | some ρ' => .nx ρ' st
  | none => .bad
theorem asg_t {f : FG} {D : Ends} {σ : St} {H : Hp} (h : tSt X (xAsg fe f) D σ H) : tAsg (tE X fe) (tTg X f) D σ H := by
  obtain ⟨μ, ρ, st, l, h⟩ := h
  refine ⟨μ, ρ, st, l, RK.stmt h l fun μ1 st1 x v H1 p1 x1 l1 q1 h1 => ?_⟩
  cases e1 : f x ρ with
  | none => rw [e1] at h1; exact h1.elim
  | some ρ' => rw [e1] at h1; exact ⟨μ1, ρ, st1, x, ρ', l1, q1, e1, fun σ' l' => h1 μ1 σ' H1 (List.prefix_refl _) Ext.refl l'⟩
theorem ss_asg {tg : Expr} {f : FG} (he : SE X e fe) (hg : SG X tg f) (hs : swapsWithSole [tg] e pos.line X.env = pure false := by rfl) (hw : swappedStores [tg] e X.env = pure none := by rfl) (h1 : (assignEach [tg] X.env).map (·.2) = [assign tg X.env] := by rfl) : SS X (.Assign [tg] e pos) (xAsg fe f) := ⟨(ps_asg he.h hg.h hs hw h1).imp fun D σ H h => asg_t h⟩
def xSet (i : Nat) (fe : FE) : FS := fun ρ st => (fe ρ st).stmt ρ fun w st => .nx (ρ.set i (some w)) st
theorem ss_set {i : Nat} {pos' : Pos} (hN : X.N.Nodup) (hi : X.N[i]? = some x) (hx : Loc X.env.scope x) (he : SE X e fe) (hs : swapsWith e (some (.Name x pos')) pos.line X.env = pure false := by rfl) (hf : X.fn x = true ∨ X.env.scope.names.lookup x = some .local := by first | exact .inl rfl | exact .inr rfl | assumption) :
    SS X (.Assign [.Name x pos'] e pos) (xSet i fe) := ⟨(ps_set hN hi hx he.h hs hf).imp fun D σ H h => by
  obtain ⟨μ, ρ, st, l, h⟩ := h
  exact ⟨μ, ρ, st, l, RK.stmt h l fun μ1 st1 x v H1 p1 x1 l1 q1 h1 => h1 μ1 _ H1 (List.prefix_refl _) Ext.refl ⟨envR_set q1 i l1.env, l1.sto⟩⟩⟩
def xPut (fo fi fe : FE) (f : W → W → W → List Cell → Option (List Cell)) : FS := fun ρ st => (fe ρ st).stmt ρ fun v st => (fo ρ st).stmt ρ fun x st => (fi ρ st).stmt ρ fun i st => match f x i v st with
  | some st' => .nx ρ st'
  | none => .bad
end
end L2
set_option Elab.async false
set_option linter.all false
set_option maxRecDepth 100000
set_option maxHeartbeats 4000000
namespace L2
open PySem PySem.Spec PyProof.Rows
/-- the list that is walked stands as it was -/
def chkOk (st : List Cell) : Option (Nat × List W) → Prop
  | none => True
  | some (n, ws) => lstOf st n = some ws
abbrev Walk := List W × Option (Nat × List W)
abbrev FI := EnvW → List Cell → R Walk
def WalkOk (X : Cx) (J : It) (k : Walk) (μ : List Addr) (H : Hp) : Prop :=
  ∀ (i : Nat) μ' st' H', μ <+: μ' → Ext X.K H H' → StR X.K X.mg μ' st' H' → chkOk st' k.2 →
    (∀ w, k.1[i]? = some w → J.go i H' ∧ ∀ x H'', J.yld i H' x H'' → Ext X.K H' H'' ∧ StR X.K X.mg μ' st' H'' ∧ RelW X.K μ' H'' w x) ∧ (k.1.length ≤ i → J.stop i H')
abbrev relI (X : Cx) : List Addr → Hp → Walk → It → Prop := fun μ H k J => WalkOk X J k μ H
structure SI (X : Cx) (tg it : Expr) (f : FI) : Prop where
  h : PI X tg it (fun σ H R => tG X (relI X) f σ H R)
theorem PI.imp {X : Cx} {tg it : Expr} {t t' : TI} (h : PI X tg it t) (i : ∀ σ H Q, t' σ H Q → t σ H Q) : PI X tg it t' := fun pins s σ H Q I q => h pins s σ H Q I (i _ _ _ q)
open Classical in
noncomputable def forW (f : FG) (body : FS) (ck : Option (Nat × List W)) : List W → FS
  | [], ρ, st => if chkOk st ck then .nx ρ st else .bad
  | w :: ws, ρ, st => if chkOk st ck then (match f w ρ with
    | none => .bad
    | some ρ' => (match body ρ' st with
      | .nx ρ2 st2 => forW f body ck ws ρ2 st2
      | .ct ρ2 st2 => forW f body ck ws ρ2 st2
      | .bk ρ2 st2 => .nx ρ2 st2
      | .rt w st2 => .rt w st2
      | .ex c ρ2 st2 => .ex c ρ2 st2
      | .bad => .bad)) else .bad
noncomputable def xFor (fi : FI) (f : FG) (body : FS) : FS := fun ρ st => (fi ρ st).stmt ρ fun k st => forW f body k.2 k.1 ρ st
section
variable {X : Cx} {a b c e o tg iter : Expr} {es : List Expr} {pos p p2 : Pos} {fa fb fe : FE} {fs : FA} {ft : FT} {body : List Stmt} {g : FS} {f : FG} {fi : FI}
theorem ss_for (hi : SI X tg iter fi) (hg : SG X tg f) (hb : SB X body g) (hc : X.calm = true := by rfl) (hp : PassesOwn (model X.prog X.w) X.A X.env X.xe := by passes_own) (hs : ∀ x, foldedSetIterable iter X.env x = pure x := by intro _; rfl) : SS X (.For tg iter body [] pos) (xFor fi f g) := ⟨(ps_for hp hc hi.h hg.h hb.h hs).imp fun D σ H h => by
  obtain ⟨μ, ρ, st, l, h⟩ := h
  refine ⟨μ, ρ, st, l, RK.stmt h l fun μ1 st1 k J H1 p1 x1 l1 wk h1 => ?_⟩
  refine ⟨fun i m σ' H' => i ≤ k.1.length ∧ m = k.1.length - i ∧ ∃ μ' ρ' st', μ1 <+: μ' ∧ Ext X.K H1 H' ∧ Rl X μ' ρ' st' σ' H' ∧ SK X μ' H' D (forW f g k.2 (k.1.drop i) ρ' st'),
    ⟨_, Nat.zero_le _, rfl, μ1, ρ, st1, List.prefix_refl _, Ext.refl, l1, h1⟩, ?_⟩
  rintro i m σ' H' ⟨hi, rfl, μ', ρ', st', pm, xm, lm, hm⟩
  by_cases hlt : i < k.1.length
  · rw [List.drop_eq_getElem_cons hlt] at hm
    unfold forW at hm
    by_cases ck : chkOk st' k.2
    · rw [if_pos ck] at hm
      obtain ⟨go, yld⟩ := (wk i μ' st' H' pm xm lm.sto ck).1 _ (List.getElem?_eq_getElem hlt)
      cases hf : f k.1[i] ρ' with
      | none => rw [hf] at hm; exact hm.elim
      | some ρ2 =>
        rw [hf] at hm
        simp only at hm
        refine .inr ⟨go, fun σ2 H2 => ∃ μ2 ρ3 st2, μ' <+: μ2 ∧ Ext X.K H' H2 ∧ Rl X μ2 ρ3 st2 σ2 H2 ∧ SK X μ2 H2 D (forW f g k.2 (k.1.drop (i + 1)) ρ3 st2), fun σ2 H2 ⟨μ2, ρ3, st2, q1, q2, q3, q4⟩ =>
          ⟨_, by omega, hlt, rfl, μ2, ρ3, st2, pm.trans q1, xm.trans q2, q3, q4⟩, fun x H2 hy => ?_⟩
        obtain ⟨y1, y2, y3⟩ := yld x H2 hy
        refine ⟨μ', ρ', st', k.1[i], ρ2, lm.to (List.prefix_refl _) y1 y2, y3, hf, fun σ2 l2 => ⟨μ', ρ2, st', l2, ?_⟩⟩
        cases e : g ρ2 st' with
        | nx ρ3 st3 => rw [e] at hm; exact fun μ4 σ4 H4 p4 x4 l4 => ⟨μ4, ρ3, st3, p4, y1.trans x4, l4, SK.mono hm p4 (y1.trans x4)⟩
        | ct ρ3 st3 => rw [e] at hm; exact fun μ4 σ4 H4 p4 x4 l4 => ⟨μ4, ρ3, st3, p4, y1.trans x4, l4, SK.mono hm p4 (y1.trans x4)⟩
        | bk ρ3 st3 => rw [e] at hm; exact fun μ4 σ4 H4 p4 x4 l4 => hm μ4 σ4 H4 p4 (y1.trans x4) l4
        | rt w st3 => rw [e] at hm; exact fun μ4 v4 H4 p4 x4 => hm μ4 v4 H4 p4 (y1.trans x4)
        | ex c ρ3 st3 => rw [e] at hm; exact XS.mono hm (List.prefix_refl _) y1
        | bad => rw [e] at hm; exact hm
    · rw [if_neg ck] at hm; exact hm.elim
  · have hi' : i = k.1.length := by omega
    subst hi'
    rw [List.drop_of_length_le (Nat.le_refl _)] at hm
    unfold forW at hm
    by_cases ck : chkOk st' k.2
    · rw [if_pos ck] at hm
      exact .inl ⟨(wk _ μ' st' H' pm xm lm.sto ck).2 (Nat.le_refl _), hm μ' σ' H' (List.prefix_refl _) Ext.refl lm⟩
    · rw [if_neg ck] at hm; exact hm.elim⟩
def whileW (t : FT) (body : FS) : Nat → FS
  | 0, _, _ => .bad
  | n + 1, ρ, st => (t ρ st).stmt ρ fun k st => if k then (match body ρ st with
      | .nx ρ2 st2 => whileW t body n ρ2 st2
      | .ct ρ2 st2 => whileW t body n ρ2 st2
      | .bk ρ2 st2 => .nx ρ2 st2
      | .rt w st2 => .rt w st2
      | .ex c ρ2 st2 => .ex c ρ2 st2
      | .bad => .bad) else .nx ρ st
open Classical in
noncomputable def xWhile (t : FT) (body : FS) : FS := fun ρ st => if h : ∃ n, whileW t body n ρ st ≠ .bad then whileW t body h.choose ρ st else .bad
theorem whileW_mono (t : FT) (g : FS) : ∀ (n : Nat) (ρ : EnvW) (st : List Cell), whileW t g n ρ st ≠ .bad → whileW t g (n + 1) ρ st = whileW t g n ρ st
  | 0, _, _, h => absurd rfl h
  | n + 1, ρ, st, h => by
    unfold whileW at h ⊢
    cases e : t ρ st with
    | ex c st1 => rfl
    | bad => rfl
    | ok k st1 =>
      rw [e] at h
      simp only [R.stmt_ok] at h ⊢
      cases k with
      | false => rfl
      | true =>
        simp only [if_true] at h ⊢
        cases e2 : g ρ st1 with
        | nx ρ2 st2 => rw [e2] at h; exact whileW_mono t g n ρ2 st2 h
        | ct ρ2 st2 => rw [e2] at h; exact whileW_mono t g n ρ2 st2 h
        | _ => rfl
theorem whileW_le {t : FT} {g : FS} {n m : Nat} {ρ : EnvW} {st : List Cell} (h : whileW t g n ρ st ≠ .bad) (hm : n ≤ m) : whileW t g m ρ st = whileW t g n ρ st := by
  induction hm with
  | refl => rfl
  | @step m _ ih => rw [whileW_mono t g m ρ st (by rw [ih]; exact h), ih]
theorem xWhile_eq {t : FT} {g : FS} {n : Nat} {ρ : EnvW} {st : List Cell} {r : RS} (h : whileW t g n ρ st = r) (hr : r ≠ .bad) : xWhile t g ρ st = r := by
  have hx : ∃ n, whileW t g n ρ st ≠ .bad := ⟨n, by rw [h]; exact hr⟩
  unfold xWhile
  rw [dif_pos hx]
  have c := hx.choose_spec
  have a := whileW_le c (Nat.le_max_left hx.choose n)
  have b := whileW_le (n := n) (m := max hx.choose n) (by rw [h]; exact hr) (Nat.le_max_right _ _)
  rw [← a, b, h]
theorem while_sound {X : Cx} {t : FT} {g : FS} {D : Ends} : ∀ (n : Nat) (σ : St) (H : Hp) (μ : List Addr) (ρ : EnvW) (st : List Cell), Rl X μ ρ st σ H → SK X μ H D (whileW t g n ρ st) → tWhile (tT X t) (tSt X g) D σ H := by
  intro n σ H μ ρ st l h
  refine ⟨fun m σ' H' => ∃ μ' ρ' st', Rl X μ' ρ' st' σ' H' ∧ SK X μ' H' D (whileW t g m ρ' st'), ⟨n, μ, ρ, st, l, h⟩, ?_⟩
  rintro m σ' H' ⟨μ', ρ', st', l', h'⟩
  cases m with
  | zero => exact h'.elim
  | succ m =>
    refine ⟨μ', ρ', st', l', RK.stmt h' l' fun μ1 st1 k v H1 p1 x1 l1 q1 h1 => ?_⟩
    cases q1
    cases k with
    | false => exact h1 μ1 σ' H1 (List.prefix_refl _) Ext.refl l1
    | true =>
      refine ⟨fun σ2 H2 => ∃ μ2 ρ2 st2, Rl X μ2 ρ2 st2 σ2 H2 ∧ SK X μ2 H2 D (whileW t g m ρ2 st2), fun σ2 H2 z => ⟨m, Nat.lt_succ_self m, z⟩, μ1, ρ', st1, l1, ?_⟩
      simp only [if_true] at h1
      cases e : g ρ' st1 with
      | nx ρ3 st3 => rw [e] at h1; exact fun μ4 σ4 H4 p4 x4 l4 => ⟨μ4, ρ3, st3, l4, SK.mono h1 p4 x4⟩
      | ct ρ3 st3 => rw [e] at h1; exact fun μ4 σ4 H4 p4 x4 l4 => ⟨μ4, ρ3, st3, l4, SK.mono h1 p4 x4⟩
      | bk ρ3 st3 => rw [e] at h1; exact h1
      | rt w st3 => rw [e] at h1; exact h1
      | ex c ρ3 st3 => rw [e] at h1; exact h1
      | bad => rw [e] at h1; exact h1
theorem ss_while {t : FT} (hc : ST X c t) (hb : SB X body g) (hp : PassesOwn (model X.prog X.w) X.A X.env X.xe := by passes_own) : SS X (.While c body [] pos) (xWhile t g) := ⟨(ps_while hp hc.h hb.h).imp fun D σ H h => by
  obtain ⟨μ, ρ, st, l, h⟩ := h
  unfold xWhile at h
  by_cases hx : ∃ n, whileW t g n ρ st ≠ .bad
  · rw [dif_pos hx] at h; exact while_sound _ σ H μ ρ st l h
  · rw [dif_neg hx] at h; exact h.elim⟩
/-- a tuple, a list, the signs of a text -/
def itTup (fe : FE) : FI := fun ρ st => (fe ρ st).bind fun x st => match x with
  | .tup ws => .ok (ws, none) st
  | _ => .bad
theorem si_tup (he : SE X e fe) : SI X tg e (itTup fe) := ⟨(pi_tup he.h).imp fun σ H R h => by
  obtain ⟨μ, ρ, st, l, h⟩ := h
  refine ⟨μ, ρ, st, l, RK.bind h l fun μ1 st1 x v H1 p1 x1 l1 q1 h1 => ?_⟩
  cases x with
  | tup ws =>
    obtain ⟨p, vs, rfl, hS, r⟩ := q1.tupE
    refine ⟨p, rfl, ⟨vs, hS⟩, h1 μ1 _ H1 (List.prefix_refl _) Ext.refl l1.sto fun i μ' st' H' pp xx S _ => ⟨fun w hw => ?_, fun hl => ⟨vs, xx _ _ hS, by rw [← r.len]; exact hl⟩⟩⟩
    have r' := r.mono pp xx
    obtain ⟨v, g1, g2⟩ := r'.get hw
    refine ⟨⟨vs, v, xx _ _ hS, g1⟩, fun y H'' hy => ?_⟩
    obtain ⟨rfl, hy⟩ := hy
    have := hy vs (xx _ _ hS)
    rw [g1] at this; cases this
    exact ⟨Ext.refl, S, g2⟩
  | _ => exact h1.elim⟩
def itLst (fe : FE) : FI := fun ρ st => (fe ρ st).bind fun x st => match x with
  | .loc n => (match lstOf st n with
    | some ws => .ok (ws, some (n, ws)) st
    | none => .bad)
  | _ => .bad
theorem si_lst (he : SE X e fe) : SI X tg e (itLst fe) := ⟨(pi_list he.h).imp fun σ H R h => by
  obtain ⟨μ, ρ, st, l, h⟩ := h
  refine ⟨μ, ρ, st, l, RK.bind h l fun μ1 st1 x v H1 p1 x1 l1 q1 h1 => ?_⟩
  cases x with
  | loc n =>
    obtain ⟨a, ha, rfl⟩ := q1.locE
    simp only at h1
    cases e1 : lstOf st1 n with
    | none => rw [e1] at h1; exact h1.elim
    | some ws =>
      rw [e1] at h1
      obtain ⟨a', vs0, g0, hS0, r0⟩ := l1.sto.lstOf e1
      rw [ha] at g0; cases g0
      refine ⟨a, rfl, ⟨vs0, hS0⟩, h1 μ1 _ H1 (List.prefix_refl _) Ext.refl l1.sto fun i μ' st' H' pp xx S ck => ?_⟩
      obtain ⟨a2, vs, g2, hS, r⟩ := S.lstOf (show lstOf st' n = some ws from ck)
      have : μ'[n]? = some a := pre_get pp ha
      rw [g2] at this; cases this
      refine ⟨fun w hw => ?_, fun hl => ⟨vs, hS, by rw [← r.len]; exact hl⟩⟩
      obtain ⟨v, g1, g3⟩ := r.get hw
      refine ⟨⟨vs, v, hS, g1⟩, fun y H'' hy => ?_⟩
      obtain ⟨rfl, hy⟩ := hy
      have := hy vs hS
      rw [g1] at this; cases this
      exact ⟨Ext.refl, S, g3⟩
  | _ => exact h1.elim⟩
def rangeW (lo : Int) (n : Nat) : List W := (List.range n).map fun (i : Nat) => W.int (lo + i)
theorem rangeW_len (lo : Int) (n : Nat) : (rangeW lo n).length = n := by simp [rangeW]
theorem walk_range {μ : List Addr} {H : Hp} {lo : Int} {n : Nat} : WalkOk X (Itr lo n) (rangeW lo n, none) μ H := fun i μ' st' H' pp xx S _ => by
  refine ⟨fun w hw => ?_, fun hl => by rw [rangeW_len] at hl; exact hl⟩
  have hi : i < n := by
    have := (List.getElem?_eq_some_iff.mp hw).1
    rw [rangeW_len] at this; exact this
  refine ⟨hi, fun y H'' hy => ?_⟩
  obtain ⟨rfl, rfl⟩ := hy
  have e : w = .int (lo + i) := by
    unfold rangeW at hw
    rw [List.getElem?_map, List.getElem?_range hi] at hw
    exact (Option.some.inj hw).symm
  subst e
  exact ⟨Ext.refl, S, .int⟩
def itRange1 (fs : FA) : FI := fun ρ st => (fs ρ st).bind fun ws st => match ws with
  | [.int j] => if -(2 ^ 62) ≤ j ∧ j < 2 ^ 62 then .ok (rangeW 0 j.toNat, none) st else .bad
  | _ => .bad
theorem si_range1 (hm : X.mg "range" = none) (ha : SA X [a] fs) (hg : Gl X "range" := by rfl) (hs : starEach [a] X.env = [(false, eval a X.env)] := by rfl) : SI X tg (.Call (.Name "range" p) [a] [] pos) (itRange1 fs) := ⟨(pi_range1 hg hm ha.h hs).imp fun σ H R h => by
  obtain ⟨μ, ρ, st, l, h⟩ := h
  refine ⟨μ, ρ, st, l, RK.bind h l fun μ1 st1 x v H1 p1 x1 l1 q1 h1 => ?_⟩
  split at h1
  · obtain ⟨y, rfl, ry⟩ := q1.one
    split at h1
    · rename_i c
      exact ⟨_, by rw [ry.intE], c.1, c.2, h1 μ1 _ H1 (List.prefix_refl _) Ext.refl l1.sto walk_range⟩
    · exact h1.elim
  · exact h1.elim⟩
end
end L2
set_option Elab.async false
set_option linter.all false
set_option maxRecDepth 100000
set_option maxHeartbeats 4000000
namespace L2
variable {nk : Nat}
open PySem PySem.Spec PyProof.Rows
mutual
def W.und (n : Nat) : W → Bool
  | .loc m => decide (m < n)
  | .tup ws => undWs n ws
  | _ => true
def undWs (n : Nat) : List W → Bool
  | [] => true
  | w :: ws => w.und n && undWs n ws
end
def Cell.und (n : Nat) : Cell → Bool
  | .lst ws => undWs n ws
  | .ro ws => undWs n ws
  | .exc _ => true
  | .dct kvs => undWs n (kvs.map fun p => p.2)
  | .rod kvs => undWs n (kvs.map fun p => p.2)
  | .dcx kvs => undWs n (kvs.map fun p => p.2)
  | .rox kvs => undWs n (kvs.map fun p => p.2)
  | .obj _ fs => undWs n (fs.map fun p => p.2)
  | .tab _ _ _ => true
  | .pin _ _ _ w => w.und n
  | .gone => true
section
variable {K : PySem.W.Frag} {mg : Str → Option Value} {μ μ' : List Addr} {H H' : Hp}
mutual
theorem RelW.und : ∀ {w : W} {v : V}, RelW K μ H w v → w.und μ.length = true
  | .non, _, _ => by simp [W.und]
  | .bl _, _, _ => by simp [W.und]
  | .int _, _, _ => by simp [W.und]
  | .str _, _, _ => by simp [W.und]
  | .tup _, _, r => by obtain ⟨p, vs, _, _, c⟩ := r.tupE; unfold W.und; exact RelWs.und c
  | .loc _, _, r => by obtain ⟨a, e, _⟩ := r.locE; unfold W.und; exact decide_eq_true (List.getElem?_eq_some_iff.mp e).1
theorem RelWs.und : ∀ {ws : List W} {vs : List V}, RelWs K μ H ws vs → undWs μ.length ws = true
  | [], _, _ => by unfold undWs; rfl
  | _ :: _, _, r => by obtain ⟨x, xs, _, b, c⟩ := r.consE; unfold undWs; rw [RelW.und b, RelWs.und c]; rfl
end
mutual
theorem RelW.take {n : Nat} : ∀ {w : W} {v : V}, RelW K μ H w v → w.und n = true → RelW K (μ.take n) H w v
  | .non, _, r, _ => by rw [r.nonE]; exact .non
  | .bl _, _, r, _ => by rw [r.blE]; exact .bl
  | .int _, _, r, _ => by rw [r.intE]; exact .int
  | .str _, _, r, _ => by rw [r.strE]; exact .str
  | .tup _, _, r, b => by obtain ⟨p, vs, rfl, h, c⟩ := r.tupE; unfold W.und at b; exact .tupI h (RelWs.takeN c b)
  | .loc _, _, r, b => by obtain ⟨a, e, rfl⟩ := r.locE; unfold W.und at b; exact .locI (by rw [List.getElem?_take_of_lt (of_decide_eq_true b)]; exact e)
theorem RelWs.takeN {n : Nat} : ∀ {ws : List W} {vs : List V}, RelWs K μ H ws vs → undWs n ws = true → RelWs K (μ.take n) H ws vs
  | [], _, r, _ => by rw [r.nilE]; exact .nilI
  | _ :: _, _, r, b => by
    obtain ⟨x, xs, rfl, b1, c1⟩ := r.consE
    unfold undWs at b
    rw [Bool.and_eq_true] at b
    exact .consI (RelW.take b1 b.1) (RelWs.takeN c1 b.2)
end
theorem KX.und_w (k : KX) (n : Nat) : k.w.und n = true := by
  have hi : ∀ ks : List Int, undWs n (ks.map W.int) = true := fun ks => by
    induction ks with
    | nil => rfl
    | cons a l ih => show (true && undWs n (l.map W.int)) = true; rw [ih]; rfl
  cases k with
  | bo b => rfl
  | fl ks => unfold KX.w W.und; exact hi ks
  | pr i ks => unfold KX.w W.und undWs; rw [show (W.int i).und n = true from rfl]; unfold undWs; rw [show (W.tup (ks.map W.int)).und n = true by unfold W.und; exact hi ks]; rfl
theorem ents_und : ∀ {kvs : List (KX × W)} {es : List DictEntry}, Paired (EntR K μ H) kvs es → undWs μ.length (kvs.map fun p => p.2) = true
  | _, _, .nil => rfl
  | _, _, .cons r t => by
    obtain ⟨_, _, v, h, _⟩ := r
    show (_ && undWs _ _) = true
    rw [h.und, ents_und t]; rfl
theorem ents_take {n : Nat} : ∀ {kvs : List (KX × W)} {es : List DictEntry}, Paired (EntR K μ H) kvs es → undWs n (kvs.map fun p => p.2) = true → Paired (EntR K (μ.take n) H) kvs es
  | _, _, .nil, _ => .nil
  | _, _, .cons r t, b => by
    obtain ⟨a, ⟨u, c, d⟩, v, h, g⟩ := r
    have b : (_ && undWs n _) = true := b
    rw [Bool.and_eq_true] at b
    exact .cons ⟨a, ⟨u, RelW.take c (KX.und_w _ n), d⟩, v, RelW.take h b.1, g⟩ (ents_take t b.2)
theorem CellR.und {c : Cell} {a : Addr} (r : CellR K mg μ H c a) : c.und μ.length = true := by
  cases c with
  | lst ws => obtain ⟨vs, _, y⟩ := r; exact y.und
  | ro ws => obtain ⟨vs, _, y⟩ := r; exact y.und
  | exc c => rfl
  | dct kvs => obtain ⟨vs, _, y⟩ := r; exact y.und
  | rod kvs => obtain ⟨vs, _, _, y⟩ := r; exact y.und
  | dcx kvs => obtain ⟨es, _, _, y, _⟩ := r; exact ents_und y
  | rox kvs => obtain ⟨es, _, _, _, y, _⟩ := r; exact ents_und y
  | obj _ fs => obtain ⟨_, _, vs, _, _, y⟩ := r; exact y.und
  | tab _ _ _ => rfl
  | pin _ _ _ _ => obtain ⟨_, _, _, v, y, _⟩ := r; exact y.und
  | gone => rfl
theorem CellR.take {n : Nat} {c : Cell} {a : Addr} (r : CellR K mg μ H c a) (b : c.und n = true) : CellR K mg (μ.take n) H c a := by
  cases c with
  | lst ws => obtain ⟨vs, x, y⟩ := r; exact ⟨vs, x, y.takeN b⟩
  | ro ws => obtain ⟨vs, x, y⟩ := r; exact ⟨vs, x, y.takeN b⟩
  | exc c => exact r
  | dct kvs => obtain ⟨vs, x, y⟩ := r; exact ⟨vs, x, y.takeN b⟩
  | rod kvs => obtain ⟨vs, o, x, y⟩ := r; exact ⟨vs, o, x, y.takeN b⟩
  | dcx kvs => obtain ⟨es, x, d, y, z⟩ := r; exact ⟨es, x, d, ents_take y b, z⟩
  | rox kvs => obtain ⟨es, o, x, d, y, z⟩ := r; exact ⟨es, o, x, d, ents_take y b, z⟩
  | obj _ fs => obtain ⟨C, dx, vs, m, x, y⟩ := r; exact ⟨C, dx, vs, m, x, y.takeN b⟩
  | tab _ _ _ => exact r
  | pin _ _ _ _ => obtain ⟨ea, p, g, v, y, z⟩ := r; exact ⟨ea, p, g, v, y.take b, z⟩
  | gone => trivial
end
theorem ObjOk.ex {P : Program} {w : World} {H : Hp} {h : Heap} {a : Addr} {o : HO} (x : ObjOk P w nk H h a o) : ∃ ob, h.get? a = some ob := by
  cases o with
  | lst xs => obtain ⟨_, _, _, _, e⟩ := x; exact ⟨_, e⟩
  | tup xs => obtain ⟨_, _, _, o, e, _⟩ := x; exact ⟨_, e⟩
  | dK kvs => obtain ⟨_, _, _, _, o, _, _, e, _⟩ := x; exact ⟨_, e⟩
  | dT kvs => obtain ⟨_, _, _, _, o, _, _, e, _⟩ := x; exact ⟨_, e⟩
  | set S n => obtain ⟨o, _, _, _, e, _⟩ := x; exact ⟨_, e⟩
  | ins C dx fs => obtain ⟨_, _, _, e, _⟩ := x; exact ⟨_, e⟩
  | own y => obtain ⟨_, e⟩ := x; exact ⟨_, e⟩
  | xd fs => obtain ⟨_, ⟨_, _, _, e, _⟩, _⟩ := x; exact ⟨_, e⟩
  | rng lo hi => obtain ⟨_, _, _, e⟩ := x; exact ⟨_, e⟩
  | frz ob u => obtain ⟨e, _⟩ := x; exact ⟨_, e⟩
  | tbl ps => exact ⟨_, (show h.get? a = some _ from x)⟩
  | met f y => exact ⟨_, (show h.get? a = some _ from x)⟩
  | ext φ => obtain ⟨_, ⟨_, e⟩, _⟩ := x; exact ⟨_, e⟩
/-- what is left of the cells behind a call: those that stood ahead of it, where nothing leads to a new one -/
def Keeps (st st' : List Cell) (ws : List W) : Prop := undWs st.length ws = true ∧ st.length ≤ st'.length ∧ ∀ (i : Nat), i < st.length → st'[i]? = st[i]? ∨ ∃ c, st'[i]? = some c ∧ c.und st.length = true
open Classical in
noncomputable def trunc (st st' : List Cell) (ws : List W) : List Cell := if Keeps st st' ws then st'.take st.length else st'
theorem trunc_ok {K : PySem.W.Frag} {mg : Str → Option Value} {μ μ' : List Addr} {H H' : Hp} {st st' : List Cell} {ws : List W} {vs : List V} (S : StR K mg μ st H) (S' : StR K mg μ' st' H') (p : μ <+: μ') (r : RelWs K μ' H' ws vs) :
    ∃ μ2, μ <+: μ2 ∧ StR K mg μ2 (trunc st st' ws) H' ∧ RelWs K μ2 H' ws vs := by
  unfold trunc
  by_cases k : Keeps st st' ws
  · rw [if_pos k]
    obtain ⟨k1, k2, k3⟩ := k
    have e : μ'.take st.length = μ := by
      obtain ⟨t, rfl⟩ := p
      rw [S.len, List.take_left]
    refine ⟨μ'.take st.length, by rw [e]; exact List.prefix_refl _, ⟨fun i j a ci cj h1 h2 r1 r2 m1 m2 => ?_, by rw [List.length_take, List.length_take, S'.len], fun i c a h1 h2 => ?_⟩, r.takeN k1⟩
    · have hi : i < st.length := by have := (List.getElem?_eq_some_iff.mp h1).1; rw [List.length_take] at this; omega
      have hj : j < st.length := by have := (List.getElem?_eq_some_iff.mp h2).1; rw [List.length_take] at this; omega
      rw [List.getElem?_take_of_lt hi] at h1 m1
      rw [List.getElem?_take_of_lt hj] at h2 m2
      exact S'.nd i j a ci cj h1 h2 r1 r2 m1 m2
    · have hi : i < st.length := by have := (List.getElem?_eq_some_iff.mp h1).1; rw [List.length_take] at this; omega
      rw [List.getElem?_take_of_lt hi] at h1 h2
      refine (S'.at' i c a h1 h2).take ?_
      rcases k3 i hi with q | ⟨c', q, b⟩
      · rw [h1] at q
        obtain ⟨a0, g0, r0⟩ := S.get q.symm
        have := r0.und
        rw [S.len]; exact this
      · rw [h1] at q; cases q; exact b
  · rw [if_neg k]
    exact ⟨μ', p, S', r⟩
noncomputable def runF (N : Nat) (body : FS) (ws : List W) (st : List Cell) : R W := match body (ws.map some ++ List.replicate (N - ws.length) none) st with
  | .rt w st' => .ok w (trunc st st' [w])
  | .nx _ st' => .ok .non (trunc st st' [])
  | .ex c _ st' => .ex c (trunc st st' [])
  | _ => .bad
/-- how an exception lies behind a call -/
def CX1 (P : Program) (w : World) : CXT := fun outer H s E e s' => ∃ x C t B H', e = .ref x ∧ E C none H' ∧ s'.os = s.os ∧ AllBare s'.gens ∧ Un (frs outer) [] H H' s.heap s'.heap ∧ HOk P w s'.toks H' s'.heap ∧ H' x = none ∧ Heap.FlyingW B outer x C (.ref t) s'.heap ∧
  ∀ b o, s'.heap.get? b = some o → (H' b ≠ none ∨ ((∃ o0, s.heap.get? b = some o0) ∧ b ∉ frs outer)) → B.get? b = some o
/-- what a def promises, by its function -/
def spW (K : PySem.W.Frag) (mg : Str → Option Value) (n : Nat) (F : List W → List Cell → R W) : Sp := fun vs H Q E => vs.length = n ∧ ∃ μ ws st, StR K mg μ st H ∧ RelWs K μ H ws vs ∧ (match F ws st with
  | .ok w st' => ∀ μ' v H', μ <+: μ' → Ext K H H' → StR K mg μ' st' H' → RelW K μ' H' w v → Q v H'
  | .ex c st' => ∀ C μ' H', mg c = some C → μ <+: μ' → Ext K H H' → StR K mg μ' st' H' → E C none H'
  | .bad => False)
/-- behind the frame's own note: still in flight, all else as it was -/
theorem Flies.noted {X : Cx} {pins : List (Addr × Obj)} {σ : St} {c : Str} {H : Hp} {e : Value} {s : Shared} {Q : Unit → Shared → Prop} {E : Value → Shared → Prop} {M : Model} {outer : List Env} (f : Flies X pins σ c H e s) (hst : X.stack = X.env :: outer) (hfr : X.env.frame = some X.env.locals) (hA : X.A.frames = some X.stack)
    (h : ∀ x C t B h', e = .ref x → X.mg c = some C → H x = none → Heap.FlyingW B X.stack x C (.ref t) h' → s.heap.UpToSlots h' →
      (∀ b o, s.heap.get? b = some o → (H b ≠ none ∨ ((∃ o0, X.s₀.heap.get? b = some o0) ∧ b ∉ X.fs ∧ b ∉ X.ex) ∨ ((∃ y, X.env.cells.lookup y = some b) ∧ b ∉ frs X.stack) ∨ ∃ p ∈ X.pn ++ pins, p.1 = b) → B.get? b = some o) → Q () { s with heap := h' }) :
    wpAny M X.A (leaving X.env e) Q E s := by
  obtain ⟨x, C, t, B, rfl, hC, hx, st, nx, ff, tr, cov⟩ := f.ex
  rw [hst] at ff hA
  rcases tr with tr | ⟨oe, vs, he, rfl, _, hd, h1, h0⟩ | ⟨L, hL, tr⟩
  · refine wpAny_leaving_nextW hA ff hfr tr st nx fun h' hL => ?_
    obtain ⟨k1, k2, k3, k4⟩ := hL
    exact h x C t B h' rfl hC hx ⟨k1, nx, by rw [hst]; exact k2, k3⟩ k4 cov
  · refine wpAny_leaving_firstW hA ff hfr he st nx hd h1 h0 fun h' hL => ?_
    obtain ⟨k1, k2, k3, k4⟩ := hL
    exact h x _ t B h' rfl hC hx ⟨k1, nx, by rw [hst]; exact k2, k3⟩ k4 cov
  · unfold leaving
    refine wpAny_bind (wpAny_noteFrame_againW hL tr (wpAny_landsW ⟨st, nx, ff, tr⟩ fun h' fl up => ?_))
    exact h x C t B h' rfl hC hx (by rw [hst]; exact fl) up cov
/-- the exception leaves the frame -/
theorem Flies.leaves {X : Cx} {pins : List (Addr × Obj)} {σ : St} {c : Str} {H : Hp} {e : Value} {s : Shared} {E : XK} {E' : Value → Shared → Prop} {M : Model} (f : Flies X pins σ c H e s) (hst : X.stack = X.env :: X.outer) (hfr : X.env.frame = some X.env.locals) (hA : X.A.frames = some X.stack) (hex : X.ex = [])
    (hE : ∀ C, X.mg c = some C → E C none H) : wpAny M X.A (leaving X.env e) (fun _ s'' => CX1 X.prog X.w X.outer X.H₀ X.s₀ E e s'') E' s := by
  refine f.noted hst hfr hA fun x C t B h' he hC hx fl up cov => ?_
  have I := f.inv
  have un := I.base
  rw [hex] at un
  have fsE : X.fs = frs X.outer := rfl
  obtain ⟨f1, f2, f3, f4⟩ := fl
  rw [hst] at f3
  obtain ⟨_, _, f3'⟩ := f3
  have frames : ∀ b ∈ frs X.outer, ∀ o, s.heap.get? b = some o → ∃ sl, h'.get? b = some { o with slots := sl } := fun b hb o ho => by
    obtain ⟨_, o', ho', hd⟩ := I.funs.mem hb
    rw [ho] at ho'; cases ho'
    exact up b o ho hd
  have kept : ∀ b o, s.heap.get? b = some o → (∃ o0, X.s₀.heap.get? b = some o0) → b ∉ frs X.outer → h'.get? b = some o := fun b o ho h0 hb => f1 b o (cov b o ho (.inr (.inl ⟨h0, hb, by rw [hex]; simp⟩)))
  have keptH : ∀ b o, s.heap.get? b = some o → H b ≠ none → h'.get? b = some o := fun b o ho h0 => f1 b o (cov b o ho (.inl h0))
  refine ⟨x, C, t, B, H, he, hE C hC, I.os, I.bare, ⟨fun b o q n hb hx => ?_, fun b o q n hb hx => ?_, fun b o q n hx => un.free b o q n hx, fun b o q hx => ?_, un.tups, un.frzs, un.tbls⟩, fun b u hb => ?_, hx, ⟨f1, f2, f3', f4⟩, fun b o ho hr => ?_⟩
  · exact kept b o (un.keep b o q n hb hx) ⟨o, q⟩ hb
  · obtain ⟨sl, q1⟩ := un.slot b o q n hb hx
    obtain ⟨sl2, q2⟩ := frames b hb _ q1
    exact ⟨sl2, q2⟩
  · obtain ⟨o', q1⟩ := un.there b o q hx
    by_cases hb : b ∈ frs X.outer
    · obtain ⟨sl2, q2⟩ := frames b hb _ q1; exact ⟨_, q2⟩
    · exact ⟨o', kept b o' q1 ⟨o, q⟩ hb⟩
  · refine (I.hok b u hb).stay (fun c v hc q => ?_) (fun _ q => q) fun _ _ q => q
    refine keptH c v q ?_
    rcases hc with rfl | hc
    · rw [hb]; simp
    · rw [hc]; simp
  · rcases hr with hr | ⟨⟨o0, h0⟩, hb⟩
    · cases hu : H b with
      | none => exact absurd hu hr
      | some u =>
        have lt := I.hok.lt hu
        obtain ⟨ob, hob⟩ : ∃ ob, s.heap.get? b = some ob := by
          exact (I.hok b u hu).ex
        have := keptH b ob hob hr
        rw [ho] at this; cases this
        exact cov b o hob (.inl hr)
    · obtain ⟨o', q1⟩ := un.there b o0 h0 (by simp)
      have := kept b o' q1 ⟨o0, h0⟩ hb
      rw [ho] at this; cases this
      exact cov b o q1 (.inr (.inl ⟨⟨o0, h0⟩, hb, by rw [hex]; simp⟩))

structure HasW (P : Program) (w : World) (K : PySem.W.Frag) (mg : Str → Option Value) (base : Heap) (k : Nat) (x : Str) (n : Nat) (F : List W → List Cell → R W) : Prop where
  ex : ∃ (f : Addr) (fd : FuncData) (ps : List Str), mg x = some (.ref f) ∧ PySem.W.keepIn K (.ref f) = true ∧ ps.length = n ∧ Binds K fd ps [] ∧ FnOk P w K mg base (CX1 P w) k f fd ps (spW K mg n F)
theorem HasW.mono {P : Program} {w : World} {K : PySem.W.Frag} {mg : Str → Option Value} {base : Heap} {j k : Nat} {x : Str} {n : Nat} {F : List W → List Cell → R W} (h : HasW P w K mg base j x n F) (hj : j ≤ k) : HasW P w K mg base k x n F := by
  obtain ⟨f, fd, ps, a, b, c, d, e⟩ := h.ex
  exact ⟨f, fd, ps, a, b, c, d, e.mono hj⟩
def eDef (n : Nat) (F : List W → List Cell → R W) (fs : FA) : FE := fun ρ st => (fs ρ st).bind fun ws st => if ws.length = n then F ws st else .bad
section
variable {X : Cx}
theorem run_W {k n : Nat} {f : Addr} {fd : FuncData} {ps : List Str} {F : List W → List Cell → R W} {pins : List (Addr × Obj)} {σ : St} {H : Hp} {s : Shared} {Q : VK} {us : List Value} {vs : List V} {μ : List Addr} {st : List Cell} {ws : List W}
    (Fn : FnOk X.prog X.w X.K X.mg X.base (CX1 X.prog X.w) k f fd ps (spW X.K X.mg n F)) (hn : ps.length = n) (hr : Room k X.A) (hb : Binds X.K fd ps []) (I : Inv X pins σ H s) (S : StR X.K X.mg μ st H) (r : RelWs X.K μ H ws vs) (rv : Vals s.toks vs us) (hl : ws.length = n)
    (h : RK X (relW X) μ σ H Q (F ws st)) : wpAny (model X.prog X.w) X.A (call (.ref f) us) (EP X pins σ Q) X.xe s := by
  have hl' : (us ++ ([] : List Value)).length = ps.length := by rw [List.append_nil, ← rv.length, ← r.len, hl, hn]
  cases e : F ws st with
  | bad => rw [e] at h; exact h.elim
  | ok w st' =>
    rw [e] at h
    refine up (wpAny_call (codeAny_mono (Fn.run X.A X.stack s H ⟨us, []⟩ us vs Q (fun _ _ _ => False) hr I.env0 (.inl I.pos) (by have := hb s us I.kIn hl'; rwa [List.append_nil] at this) rv ⟨by rw [← r.len]; exact hl, μ, ws, st, S, r, by rw [e]; exact h⟩) fun r s' hq => ?_))
    cases r with
    | error e => obtain ⟨_, _, _, _, _, _, z, _⟩ := hq; exact z.elim
    | ok fl =>
      cases fl with
      | ret u => exact fun kt => I.after hq kt
      | next => exact False.elim hq
      | brk => exact False.elim hq
      | cont => exact False.elim hq
  | ex c st' =>
    rw [e] at h
    refine up (wpAny_call (codeAny_mono (Fn.run X.A X.stack s H ⟨us, []⟩ us vs (fun _ _ => False) (fun C _ H' => X.mg c = some C ∧ ∃ μ', μ <+: μ' ∧ Ext X.K H H' ∧ StR X.K X.mg μ' st' H') hr I.env0 (.inl I.pos) (by have := hb s us I.kIn hl'; rwa [List.append_nil] at this) rv
      ⟨by rw [← r.len]; exact hl, μ, ws, st, S, r, by rw [e]; exact fun C μ' H' hC p x S' => ⟨hC, μ', p, x, S'⟩⟩) fun r s' hq => ?_))
    cases r with
    | ok fl =>
      cases fl with
      | ret u => obtain ⟨_, _, _, _, _, _, _, z⟩ := hq; exact z.elim
      | next => exact False.elim hq
      | brk => exact False.elim hq
      | cont => exact False.elim hq
    | error ev =>
      obtain ⟨x, C, t, B, H', rfl, ⟨hC, μ', p, xx, S'⟩, os, bare, un, hok, hx, fl, cov⟩ := hq
      intro kt
      have I' : Inv X pins σ H' s' := I.call' os un hok bare (fun b hb => absurd hb (by simp)) kt
      refine h pins μ' H' (.ref x) s' p xx S' ⟨I', x, C, t, B, rfl, hC, hx, fl.1, fl.2.1, fl.2.2.1, .inl fl.2.2.2, fun b o ho hrel => ?_⟩
      refine cov b o ho ?_
      rcases hrel with q | ⟨⟨o0, h0⟩, hb, hbx⟩ | ⟨⟨y, hy⟩, hb⟩ | ⟨pp, hp, rfl⟩
      · exact .inl q
      · refine .inr ⟨?_, fun z => ?_⟩
        · obtain ⟨o', q1⟩ := I.base.there b o0 h0 hbx
          exact ⟨o', q1⟩
        · rcases List.mem_cons.mp (I.stkSub b z) with z | z
          · rw [z] at h0
            exact absurd (Nat.lt_of_lt_of_le (Heap.lt_size h0) I.ok.above) (Nat.lt_irrefl _)
          · exact hb z
      · obtain ⟨v, ov, hov, _⟩ := I.cell y b hy
        exact .inr ⟨⟨_, hov⟩, hb⟩
      · obtain ⟨g1, g2, g3, g4, _⟩ := I.pin pp hp
        refine .inr ⟨⟨_, g1⟩, fun z => ?_⟩
        rcases List.mem_cons.mp (I.stkSub _ z) with z | z
        · exact g3 z
        · exact g4 z
variable {e : Expr} {es : List Expr} {pos p : Pos} {x : Str} {fs : FA}
theorem s_def {k k' n : Nat} {F : List W → List Cell → R W} (Fn : HasW X.prog X.w X.K X.mg X.base k x n F) (hr : Room k' X.A) (hk : k ≤ k') (ha : SA X (e :: es) fs) (hg : Gl X x := by rfl) (hdb : (x == ("__debug__" : Str)) = false := by decide)
    (he : starEach (e :: es) X.env = (false, eval e X.env) :: starEach es X.env := by rfl) (hpl : (backTo pos (starEach es X.env)).any (·.1) = false := by rfl) : SE X (.Call (.Name x p) (e :: es) [] pos) (eDef n F fs) := ⟨by
  intro pins s σ H Q I h
  obtain ⟨f, fd, ps, hm, hkp, hn, hb, Fo⟩ := (Fn.mono hk).ex
  refine wpAny_Call_Name_kw (ld_glob I hg hm ?_ hdb)
  obtain ⟨μ, ρ, st, l, h⟩ := h
  have h' : tA' X fs σ H fun vs H1 => ∃ μ1 st1 ws, Rl X μ1 ρ st1 σ H1 ∧ RelWs X.K μ1 H1 ws vs ∧ RK X (relW X) μ1 σ H1 Q (if ws.length = n then F ws st1 else .bad) :=
    ⟨μ, ρ, st, l, RK.bind h l fun μ1 st1 x v H1 p1 x1 l1 q1 h1 => ⟨μ1, st1, x, l1, q1, h1⟩⟩
  refine PySem.W.callWith_K (h₀ := X.base) I.ok.mod.kin hkp (thu (ha.h pos pins s σ H _ I h') fun us s1 kt1 ⟨vs, H1, I1, r, μ1, st1, ws, l1, r1, q⟩ => ⟨I1.kIn, ?_⟩) he hpl
  by_cases c : ws.length = n
  · rw [if_pos c] at q
    exact run_W Fo hn hr hb I1 l1.sto r1 r c q
  · rw [if_neg c] at q; exact q.elim⟩
theorem s_def0 {k k' : Nat} {F : List W → List Cell → R W} (Fn : HasW X.prog X.w X.K X.mg X.base k x 0 F) (hr : Room k' X.A) (hk : k ≤ k') (hg : Gl X x := by rfl) (hdb : (x == ("__debug__" : Str)) = false := by decide) : SE X (.Call (.Name x p) [] [] pos) (eDef 0 F aNil) := ⟨by
  intro pins s σ H Q I h
  obtain ⟨f, fd, ps, hm, hkp, hn, hb, Fo⟩ := (Fn.mono hk).ex
  obtain ⟨μ, ρ, st, l, h⟩ := h
  refine wpAny_Call_Name_kw (ld_glob I hg hm ?_ hdb)
  exact PySem.W.callWith_K0 I.kIn hkp (run_W (ws := []) (us := []) Fo hn hr hb I l.sto .nilI .nil rfl h)⟩
end
theorem fnW_ofC {P : Program} {w : World} {K : PySem.W.Frag} {mg : Str → Option Value} {base : Heap} {x qual : Str} {st : Stmt} {f : Addr} {fd : FuncData} {N ps : List Str} {k n : Nat} {g : FS} (F : Fun K x qual st f fd) (S : FnScope N ps (defScope st)) (hn : ps.length = n)
    (hbody : ∀ (cdv : Value) (A : Around) (outer : List Env) (s : Shared) (H : Hp) (E : XK), fd.code = cdv → Room k (A.deeper (envOfC qual (defScope st) s.heap.objs.size f cdv)) →
      SB (cxOf (CX1 P w) P w K mg base N qual (defScope st) f cdv A outer s H E) (defBody st) g) : FnOk P w K mg base (CX1 P w) (k + 1) f fd ps (spW K mg n (runF N.length g)) := by
  obtain ⟨oc, od, kV, doc, pm, an, cdv, ct, osl, rfl, lk, hcd⟩ := F.ex
  refine fn_of lk hcd S (fun vs H Q E h => by rw [hn]; exact h.1) fun A outer s H vs Q E hr hsp => ?_
  obtain ⟨hl, μ, ws, st0, Sr, r, h⟩ := hsp
  refine ⟨_, (hbody cdv A outer s H E rfl hr).h, μ, ws.map some ++ List.replicate (N.length - ws.length) none, st0, ⟨?_, Sr⟩, ?_⟩
  · unfold start
    rw [← r.len]
    have base : ∀ (ws : List W) (vs : List V) (m : Nat), RelWs K μ H ws vs → Paired (fun (o : Option W) (s : Option V) => ∀ w, o = some w → ∃ v, s = some v ∧ RelW K μ H w v) (ws.map some ++ List.replicate m none) (vs.map some ++ List.replicate m none) := by
      intro ws
      induction ws with
      | nil =>
        intro vs m r
        rw [r.nilE]
        induction m with
        | zero => exact .nil
        | succ m ih => exact .cons (fun w z => nomatch z) ih
      | cons w ws ih =>
        intro vs m r
        obtain ⟨y, ys, rfl, ry, rys⟩ := r.consE
        exact .cons (fun w' z => ⟨y, rfl, by cases z; exact ry⟩) (ih ys m rys)
    exact base ws vs _ r
  · unfold runF at h
    cases e : g (ws.map some ++ List.replicate (N.length - ws.length) none) st0 with
    | rt w st' =>
      rw [e] at h
      intro μ' v H' p x S' rw'
      obtain ⟨μ2, p2, S2, r2⟩ := trunc_ok Sr S' p (.consI rw' .nilI)
      obtain ⟨_, e2, r3⟩ := r2.one
      cases e2
      exact h μ2 v H' p2 x S2 r3
    | nx ρ' st' =>
      rw [e] at h
      intro μ' σ' H' p x l'
      obtain ⟨μ2, p2, S2, _⟩ := trunc_ok (ws := []) (vs := []) Sr l'.sto p .nilI
      exact h μ2 .non H' p2 x S2 .non
    | ex c ρ' st' =>
      rw [e] at h
      intro pins μ' σ' H' ev s' p x l' fl
      obtain ⟨μ2, p2, S2, _⟩ := trunc_ok (ws := []) (vs := []) Sr l'.sto p .nilI
      exact fl.leaves rfl rfl fl.inv.ok.frames rfl fun C hC => h C μ2 H' hC p2 x S2
    | bk ρ' st' => rw [e] at h; exact h.elim
    | ct ρ' st' => rw [e] at h; exact h.elim
    | bad => rw [e] at h; exact h.elim
theorem fnW_of {P : Program} {w : World} {K : PySem.W.Frag} {mg : Str → Option Value} {base : Heap} {x qual : Str} {st : Stmt} {f : Addr} {fd : FuncData} {N ps : List Str} {k n : Nat} {g : FS} (F : Fun K x qual st f fd) (S : FnScope N ps (defScope st)) (hn : ps.length = n)
    (hbody : ∀ (cdv : Value) (A : Around) (outer : List Env) (s : Shared) (H : Hp) (E : XK), Room k (A.deeper (envOfC qual (defScope st) s.heap.objs.size f cdv)) →
      SB (cxOf (CX1 P w) P w K mg base N qual (defScope st) f cdv A outer s H E) (defBody st) g) : FnOk P w K mg base (CX1 P w) (k + 1) f fd ps (spW K mg n (runF N.length g)) := fnW_ofC F S hn fun cdv A outer s H E _ hr => hbody cdv A outer s H E hr
theorem hasW_mk {P : Program} {w : World} {K : PySem.W.Frag} {mg : Str → Option Value} {base : Heap} {k n : Nat} {x : Str} {st : Stmt} {f : Addr} {fd : FuncData} {ps : List Str} {G : List W → List Cell → R W}
    (F : Fun K x x st f fd) (hm : mg x = some (.ref f)) (hn : ps.length = n)
    (hb : ∀ (kV doc pm : Value) (an : Option Addr) (cdv ct : Value) (us : List Value), us.length = ps.length → bindArgs (PySem.W.fnOf x x (defArgs st) (defBody st) (defScope st) .none kV doc pm an cdv ct) ⟨us, []⟩ = pure (ps.zip us))
    (ok : FnOk P w K mg base (CX1 P w) k f fd ps (spW K mg n G)) : HasW P w K mg base k x n G := ⟨f, fd, ps, hm, F.kp, hn, F.binds hb, ok⟩
end L2
set_option Elab.async false
set_option linter.all false
set_option maxRecDepth 100000
set_option maxHeartbeats 4000000
namespace L2
open PySem PySem.Spec PyProof.Rows
theorem RelWs.split {K : PySem.W.Frag} {μ : List Addr} {H : Hp} : ∀ {as bs : List W} {vs : List V}, RelWs K μ H (as ++ bs) vs → ∃ xs ys, vs = xs ++ ys ∧ RelWs K μ H as xs ∧ RelWs K μ H bs ys
  | [], _, vs, r => ⟨[], vs, rfl, .nilI, r⟩
  | w :: as, bs, vs, r => by
    obtain ⟨x, xs, rfl, rx, rs⟩ := r.consE
    obtain ⟨ys, zs, rfl, r1, r2⟩ := RelWs.split rs
    exact ⟨x :: ys, zs, rfl, .consI rx r1, r2⟩
section
variable {X : Cx} {a b c e o tg : Expr} {es : List Expr} {pos p p2 apos cpos : Pos} {x name : Str} {fa fb fe fo : FE} {fs : FA} {id : String}
structure MtW (X : Cx) (id : String) (F : W → List W → List Cell → R W) : Prop where
  h : MtR X id (fun x vs H Q => ∃ μ st wx ws, StR X.K X.mg μ st H ∧ RelW X.K μ H wx x ∧ RelWs X.K μ H ws vs ∧ OkW X μ H Q (F wx ws st))
  n : ∀ x ws st, noEx (F x ws st)
def isLst (st : List Cell) : W → Bool
  | .loc n => (match st[n]? with | some (.lst _) => true | _ => false)
  | _ => false
def isStr : W → Bool
  | .str _ => true
  | _ => false
theorem isLst_ok {μ : List Addr} {st : List Cell} {H : Hp} {w : W} {v : V} (S : StR X.K X.mg μ st H) (r : RelW X.K μ H w v) (h : isLst st w = true) : ∃ l ys, v = .ref l ∧ H l = some (.lst ys) := by
  cases w with
  | loc n =>
    obtain ⟨a, ha, rfl⟩ := r.locE
    simp only [isLst] at h
    cases e1 : st[n]? with
    | none => rw [e1] at h; cases h
    | some cc =>
      rw [e1] at h
      cases cc with
      | lst ws => obtain ⟨a1, g1, vs, k1, _⟩ := S.get e1; rw [ha] at g1; cases g1; exact ⟨_, vs, rfl, k1⟩
      | _ => cases h
  | _ => cases h
def eML (F : W → List W → List Cell → R W) (fo : FE) (fs : FA) : FE := fun ρ st => (fo ρ st).bind fun x st => if isLst st x then (fs ρ st).bind fun ws st => F x ws st else .bad
def eMS (F : W → List W → List Cell → R W) (fo : FE) (fs : FA) : FE := fun ρ st => (fo ρ st).bind fun x st => if isStr x then (fs ρ st).bind fun ws st => F x ws st else .bad
theorem s_ml {F : W → List W → List Cell → R W} (slot : Slot "list" name id) (hty : typeOf (.builtin id) = pure (.type "method_descriptor")) (hm : MtW X id F) (ho : SE X o fo) (ha : SA X (e :: es) fs)
    (hbase : attributeBase o name X.env (eval o X.env) = eval o X.env := by rfl)
    (hfew : ((backTo cpos (starEach (e :: es) X.env)).all (fun x => !x.1) && (backToKw cpos (keywordEach [] X.env)).all (fun x => x.1.isSome)
      && decide ((e :: es).length + ([] : List Keyword).length + (if ([] : List Keyword).isEmpty then 0 else 1) < 30)) = true := by rfl)
    (hline : (apos.endLine == cpos.line) = true := by rfl) (hs : starEach (e :: es) X.env = (false, eval e X.env) :: starEach es X.env := by rfl) (hplain : (backTo cpos (starEach es X.env)).any (·.1) = false := by rfl) :
    SE X (.Call (.Attribute o name apos) (e :: es) [] cpos) (eML F fo fs) := ⟨(pe_ml slot hty hm.h ho.h ha.h hbase hfew hline hs hplain).imp fun σ H Q h => by
  obtain ⟨μ, ρ, st, l, h⟩ := h
  refine ⟨μ, ρ, st, l, RK.bind h l fun μ1 st1 x v H1 p1 x1 l1 q1 h1 => ?_⟩
  by_cases c : isLst st1 x = true
  · rw [if_pos c] at h1
    refine ⟨isLst_ok l1.sto q1 c, μ1, ρ, st1, l1, RK.bind h1 l1 fun μ2 st2 ws vs H2 p2 x2 l2 q2 h2 => ?_⟩
    exact ⟨μ2, st2, x, ws, l2.sto, q1.mono p2 x2, q2, okW_of h2 (hm.n _ _ _)⟩
  · rw [if_neg c] at h1; exact h1.elim⟩
theorem s_ml0 {F : W → List W → List Cell → R W} (slot : Slot "list" name id) (hty : typeOf (.builtin id) = pure (.type "method_descriptor")) (hm : MtW X id F) (ho : SE X o fo)
    (hbase : attributeBase o name X.env (eval o X.env) = eval o X.env := by rfl) (hline : (apos.endLine == cpos.line) = true := by rfl) : SE X (.Call (.Attribute o name apos) [] [] cpos) (eML F fo aNil) := ⟨(pe_ml0 slot hty hm.h ho.h hbase hline).imp fun σ H Q h => by
  obtain ⟨μ, ρ, st, l, h⟩ := h
  refine ⟨μ, ρ, st, l, RK.bind h l fun μ1 st1 x v H1 p1 x1 l1 q1 h1 => ?_⟩
  by_cases c : isLst st1 x = true
  · rw [if_pos c] at h1
    exact ⟨isLst_ok l1.sto q1 c, μ1, st1, x, [], l1.sto, q1, .nilI, okW_of h1 (hm.n _ _ _)⟩
  · rw [if_neg c] at h1; exact h1.elim⟩
theorem s_ms {F : W → List W → List Cell → R W} (slot : Slot "str" name id) (hty : typeOf (.builtin id) = pure (.type "method_descriptor")) (hm : MtW X id F) (ho : SE X o fo) (ha : SA X (e :: es) fs)
    (hbase : attributeBase o name X.env (eval o X.env) = eval o X.env := by rfl)
    (hfew : ((backTo cpos (starEach (e :: es) X.env)).all (fun x => !x.1) && (backToKw cpos (keywordEach [] X.env)).all (fun x => x.1.isSome)
      && decide ((e :: es).length + ([] : List Keyword).length + (if ([] : List Keyword).isEmpty then 0 else 1) < 30)) = true := by rfl)
    (hline : (apos.endLine == cpos.line) = true := by rfl) (hs : starEach (e :: es) X.env = (false, eval e X.env) :: starEach es X.env := by rfl) (hplain : (backTo cpos (starEach es X.env)).any (·.1) = false := by rfl) :
    SE X (.Call (.Attribute o name apos) (e :: es) [] cpos) (eMS F fo fs) := ⟨(pe_ms slot hty hm.h ho.h ha.h hbase hfew hline hs hplain).imp fun σ H Q h => by
  obtain ⟨μ, ρ, st, l, h⟩ := h
  refine ⟨μ, ρ, st, l, RK.bind h l fun μ1 st1 x v H1 p1 x1 l1 q1 h1 => ?_⟩
  cases x with
  | str z =>
    rw [if_pos (show isStr (W.str z) = true from rfl)] at h1
    refine ⟨⟨z, q1.strE⟩, μ1, ρ, st1, l1, RK.bind h1 l1 fun μ2 st2 ws vs H2 p2 x2 l2 q2 h2 => ?_⟩
    exact ⟨μ2, st2, _, ws, l2.sto, q1.mono p2 x2, q2, okW_of h2 (hm.n _ _ _)⟩
  | _ => exact h1.elim⟩
def mAppend (x : W) (ws : List W) (st : List Cell) : R W := match x, ws with
  | .loc n, [y] => (match st[n]? with
    | some (.lst zs) => if zs.length < LIM then .ok .non (st.set n (.lst (zs ++ [y]))) else .bad
    | _ => .bad)
  | _, _ => .bad
theorem m_appendW : MtW X "list.append" mAppend := ⟨fun pins s σ H x vs v us Q I rv rus ⟨μ, st, wx, ws, S, rx, rs, q⟩ => by
  unfold mAppend at q
  split at q
  · rename_i n y
    obtain ⟨y1, rfl, ry⟩ := rs.one
    split at q
    · rename_i zs e1
      split at q
      · rename_i c
        obtain ⟨a1, g1, vs, k1, r⟩ := S.get e1
        obtain ⟨b1, f1, rfl⟩ := rx.locE
        rw [g1] at f1; cases f1
        refine mt_appendF pins s σ H _ _ v us Q I rv rus ⟨a1, vs, y1, rfl, rfl, k1, by rw [← r.len]; exact lim_lt (Nat.le_of_lt c), fun H2 e => ?_⟩
        subst e
        exact q μ _ _ (List.prefix_refl _) (SqT.but but_upd k1) (S.set e1 g1 k1 (r.app (.consI ry .nilI))) .non
      · exact q.elim
    · exact q.elim
  · exact q.elim, fun x ws st => by
  unfold mAppend
  repeat' split
  all_goals trivial⟩
def mPop (x : W) (ws : List W) (st : List Cell) : R W := match x, ws with
  | .loc n, [] => (match st[n]? with
    | some (.lst zs) => ofO zs.getLast? fun w => .ok w (st.set n (.lst zs.dropLast))
    | _ => .bad)
  | _, _ => .bad
theorem m_popW : MtW X "list.pop" mPop := ⟨fun pins s σ H x vs v us Q I rv rus ⟨μ, st, wx, ws, S, rx, rs, q⟩ => by
  unfold mPop at q
  split at q
  · rename_i n
    have e0 := rs.nilE
    subst e0
    split at q
    · rename_i zs e1
      obtain ⟨a1, g1, vs, k1, r⟩ := S.get e1
      obtain ⟨b1, f1, rfl⟩ := rx.locE
      rw [g1] at f1; cases f1
      cases hl : zs.getLast? with
      | none => rw [hl] at q; exact q.elim
      | some w =>
        rw [hl] at q
        have hz : zs = zs.dropLast ++ [w] := by
          obtain ⟨ys, rfl⟩ := List.getLast?_eq_some_iff.mp hl
          simp
        rw [hz] at r
        obtain ⟨xs', ys', hx, r1, r3⟩ := r.split
        obtain ⟨y', rfl, r2⟩ := r3.one
        refine mt_popF pins s σ H _ _ v us Q I rv rus ⟨a1, xs', y', rfl, rfl, by rw [← hx]; exact k1, fun H2 e => ?_⟩
        subst e
        have xx : Ext X.K H (upd H a1 (.lst xs')) := SqT.but but_upd k1
        exact q μ _ _ (List.prefix_refl _) xx (S.set e1 g1 k1 r1) (r2.mono (List.prefix_refl _) xx)
    · exact q.elim
  · exact q.elim, fun x ws st => by
  unfold mPop ofO
  repeat' split
  all_goals trivial⟩
def strs? : List W → Option (List (List Nat))
  | [] => some []
  | .str l :: ws => (strs? ws).map (l :: ·)
  | _ => none
theorem strs?_ok {K : PySem.W.Frag} {μ : List Addr} {H : Hp} : ∀ {ws : List W} {ls : List (List Nat)} {vs : List V}, strs? ws = some ls → RelWs K μ H ws vs → vs = ls.map fun l => V.str (tx l)
  | [], ls, vs, h, r => by simp only [strs?] at h; cases h; exact r.nilE
  | w :: ws, ls, vs, h, r => by
    obtain ⟨x, xs, rfl, rx, rs⟩ := r.consE
    cases w with
    | str l =>
      simp only [strs?] at h
      cases e : strs? ws with
      | none => rw [e] at h; cases h
      | some ls' => rw [e] at h; cases h; rw [rx.strE, strs?_ok e rs]; rfl
    | _ => simp only [strs?] at h; cases h
theorem strs?_map (ls : List (List Nat)) : strs? (ls.map W.str) = some ls := by
  induction ls with
  | nil => rfl
  | cons a r ih => show (strs? (r.map W.str)).map (a :: ·) = _; rw [ih]; rfl
def mJoin (x : W) (ws : List W) (st : List Cell) : R W := match x, ws with
  | .str sep, [.loc n] => ofO (lstOf st n) fun zs => ofO (strs? zs) fun ls => if (ls.map List.length).sum + ls.length * sep.length ≤ LIM then .ok (.str (joinN sep ls)) st else .bad
  | _, _ => .bad
theorem m_joinW : MtW X "str.join" mJoin := ⟨fun pins s σ H x vs v us Q I rv rus ⟨μ, st, wx, ws, S, rx, rs, q⟩ => by
  unfold mJoin at q
  split at q
  · rename_i sep n
    obtain ⟨y1, rfl, ry⟩ := rs.one
    cases e1 : lstOf st n with
    | none => rw [e1] at q; exact q.elim
    | some zs =>
      rw [e1, ofO_some] at q
      cases e2 : strs? zs with
      | none => rw [e2] at q; exact q.elim
      | some ls =>
        rw [e2, ofO_some] at q
        split at q
        · rename_i c
          obtain ⟨a, vs, g, hS, r⟩ := S.lstOf e1
          obtain ⟨b1, f1, rfl⟩ := ry.locE
          rw [g] at f1; cases f1
          have := strs?_ok e2 r
          subst this
          exact mt_join pins s σ H _ _ v us Q I rv rus ⟨sep, _, ls, rx.strE, rfl, hS, Nat.le_trans c (by decide), okW_str S q⟩
        · exact q.elim
  · exact q.elim, fun x ws st => by
  unfold mJoin
  split
  · exact ofO_n fun _ => ofO_n fun _ => by split <;> trivial
  · trivial⟩
end
end L2
set_option Elab.async false
set_option linter.all false
set_option maxRecDepth 100000
set_option maxHeartbeats 4000000
namespace L2
open PySem PySem.Spec PyProof.Rows
def capW (cap : List (Option Nat)) (ρ : EnvW) : EnvW := cap.map fun o => o.bind fun j => (ρ[j]?).join
theorem capR {X : Cx} {μ : List Addr} {H : Hp} {ρ : EnvW} {σ : St} (r : Paired (fun (o : Option W) (s : Option V) => ∀ w, o = some w → ∃ v, s = some v ∧ RelW X.K μ H w v) ρ σ) : ∀ cap : List (Option Nat),
    Paired (fun (o : Option W) (s : Option V) => ∀ w, o = some w → ∃ v, s = some v ∧ RelW X.K μ H w v) (capW cap ρ) (capSt cap σ)
  | [] => .nil
  | o :: cap => by
    refine .cons (fun w e => ?_) (capR r cap)
    cases o with
    | none => cases e
    | some j =>
      have e' : (ρ[j]?).join = some w := e
      have e2 : ρ[j]? = some (some w) := by
        cases h : ρ[j]? with
        | none => rw [h] at e'; cases e'
        | some ow => rw [h] at e'; simp at e'; rw [e']
      obtain ⟨v, g1, g2⟩ := envR_get r e2
      exact ⟨v, by show (σ[j]?).join = some v; rw [g1]; rfl, g2⟩
open Classical in
noncomputable def compW (f : FG) (t : FT) (el : FE) (ck : Option (Nat × List W)) (ρ0 : EnvW) : List W → List W → List Cell → R (List W)
  | [], acc, st => if chkOk st ck then .ok acc st else .bad
  | w :: ws, acc, st => if chkOk st ck then (match f w ρ0 with
    | none => .bad
    | some ρ' => (match t ρ' st with
      | .ok true st1 => (match el ρ' st1 with
        | .ok y st2 => compW f t el ck ρ0 ws (acc ++ [y]) st2
        | _ => .bad)
      | .ok false st1 => compW f t el ck ρ0 ws acc st1
      | _ => .bad)) else .bad
noncomputable def eComp (cap : List (Option Nat)) (fi : FI) (f : FG) (t : FT) (el : FE) : FE := fun ρ st => (fi ρ st).bind fun k st => if k.1.length ≤ LIM then (compW f t el k.2 (capW cap ρ) k.1 [] st).bind fun ys st => mkLst ys st else .bad
/-- without exceptions -/
def tG0 {α β : Type} (X : Cx) (rel : List Addr → Hp → α → β → Prop) (f : EnvW → List Cell → R α) (σ : St) (H : Hp) (Q : β → Hp → Prop) : Prop :=
  ∃ μ ρ st a st', Rl X μ ρ st σ H ∧ f ρ st = .ok a st' ∧ ∀ μ' b H', μ <+: μ' → Ext X.K H H' → StR X.K X.mg μ' st' H' → rel μ' H' a b → Q b H'
def fYes : FT := fun _ st => .ok true st
structure STs (X : Cx) (es : List Expr) (f : FT) : Prop where
  h : PTs X es (tT X f)
theorem PTs.imp {X : Cx} {e : List Expr} {t t' : TT} (h : PTs X e t) (i : ∀ σ H Q, t' σ H Q → t σ H Q) : PTs X e t' := fun pins s σ H Q I q => h pins s σ H Q I (i _ _ _ q)
theorem sts_nil {X : Cx} : STs X [] fYes := ⟨pts_nil.imp fun σ H Q h => by
  obtain ⟨μ, ρ, st, l, h⟩ := h
  exact h μ true H (List.prefix_refl _) Ext.refl l.sto rfl⟩
theorem sts_one {X : Cx} {c : Expr} {t : FT} (hc : ST X c t) : STs X [c] t := ⟨pts_one hc.h⟩
theorem comp_t {X : Cx} {cap : List (Option Nat)} {fi : FI} {f : FG} {t : FT} {el : FE} {σ : St} {H : Hp} {Q : VK} (h : tE X (eComp cap fi f t el) σ H Q) :
    tComp cap (fun σ H R => tG X (relI X) fi σ H R) (tTg X f) (tG0 X relB t) (tG0 X (relW X) el) σ H Q := by
  obtain ⟨μ, ρ, st, l, h⟩ := h
  refine ⟨μ, ρ, st, l, RK.bind h l fun μ1 st1 k J H1 p1 x1 l1 wk h1 => ?_⟩
  by_cases hz : k.1.length ≤ LIM
  · rw [if_pos hz] at h1
    refine ⟨fun i m ys H' => i ≤ k.1.length ∧ m = k.1.length - i ∧ ys.length ≤ i ∧ ∃ μ' acc st', μ1 <+: μ' ∧ Ext X.K H1 H' ∧ Rl X μ' ρ st' σ H' ∧ RelWs X.K μ' H' acc ys ∧ RK X (relW X) μ' σ H' Q ((compW f t el k.2 (capW cap ρ) (k.1.drop i) acc st').bind fun ys st => mkLst ys st),
      ⟨_, Nat.zero_le _, rfl, Nat.le_refl _, μ1, [], st1, List.prefix_refl _, Ext.refl, l1, .nilI, h1⟩, ?_⟩
    rintro i m ys H' ⟨hi, rfl, hy, μ', acc, st', pm, xm, lm, ra, hm⟩
    by_cases hlt : i < k.1.length
    · rw [List.drop_eq_getElem_cons hlt] at hm
      unfold compW at hm
      by_cases ck : chkOk st' k.2
      · rw [if_pos ck] at hm
        obtain ⟨go, yld⟩ := (wk i μ' st' H' pm xm lm.sto ck).1 _ (List.getElem?_eq_getElem hlt)
        refine .inr ⟨go, fun x H2 hy2 => ?_⟩
        obtain ⟨y1, y2, y3⟩ := yld x H2 hy2
        cases hf : f k.1[i] (capW cap ρ) with
        | none => rw [hf] at hm; exact hm.elim
        | some ρ2 =>
          rw [hf] at hm
          simp only at hm
          have lb : Rl X μ' (capW cap ρ) st' (capSt cap σ) H2 := ⟨capR (lm.to (List.prefix_refl _) y1 y2).env cap, y2⟩
          refine ⟨μ', capW cap ρ, st', k.1[i], ρ2, lb, y3, hf, fun σ2 l2 => ?_⟩
          cases ht : t ρ2 st' with
          | bad => rw [ht] at hm; exact hm.elim
          | ex c s => rw [ht] at hm; exact hm.elim
          | ok kk st2 =>
            rw [ht] at hm
            refine ⟨μ', ρ2, st', kk, st2, l2, ht, fun μ3 b3 H3 p3 x3 S3 q3 => ?_⟩
            cases q3
            cases kk with
            | false =>
              exact ⟨_, by omega, hlt, rfl, by omega, μ3, acc, st2, pm.trans p3, xm.trans (y1.trans x3), lm.to p3 (y1.trans x3) S3, ra.mono p3 (y1.trans x3), RK.mono hm p3 (y1.trans x3)⟩
            | true =>
              rw [if_pos rfl]
              simp only at hm
              cases he : el ρ2 st2 with
              | bad => rw [he] at hm; exact hm.elim
              | ex c s => rw [he] at hm; exact hm.elim
              | ok w st3 =>
                rw [he] at hm
                refine ⟨μ3, ρ2, st2, w, st3, l2.to p3 x3 S3, he, fun μ4 b4 H4 p4 x4 S4 q4 => ?_⟩
                have pp := p3.trans p4
                have xx := y1.trans (x3.trans x4)
                exact ⟨Nat.lt_of_le_of_lt hy (Nat.lt_of_lt_of_le hlt (lim_le hz)), _, by omega, hlt, rfl, by simp; omega, μ4, acc ++ [w], st3, pm.trans pp, xm.trans xx, lm.to pp xx S4, (ra.mono pp xx).app (.consI q4 .nilI), RK.mono hm pp xx⟩
      · rw [if_neg ck] at hm; exact hm.elim
    · have hi' : i = k.1.length := by omega
      subst hi'
      rw [List.drop_of_length_le (Nat.le_refl _)] at hm
      unfold compW at hm
      by_cases ck : chkOk st' k.2
      · rw [if_pos ck] at hm
        obtain ⟨z1, z2⟩ := mkLst_ok lm.sto ra hm
        exact .inl ⟨(wk _ μ' st' H' pm xm lm.sto ck).2 (Nat.le_refl _), z1, fun p hp => z2 p _ hp rfl⟩
      · rw [if_neg ck] at hm; exact hm.elim
  · rw [if_neg hz] at h1; exact h1.elim
section
variable {X : Cx} {elt tg iter : Expr} {ifs : List Expr} {scope : Scope} {pos : Pos} {nm : List Str} {cap : List (Option Nat)} {fi : FI} {f : FG} {t : FT} {el : FE} {m : Nat}
theorem qe0 {X X' : Cx} {e : Expr} {f : FE} (hK : X'.K = X.K) (hm : X'.mg = X.mg) (h : SE X' e f) : QE X' e (tG0 X (relW X) f) := ⟨h.h.imp fun σ H Q ⟨μ, ρ, st, a, st', l, e, q⟩ => ⟨μ, ρ, st, ⟨by rw [hK]; exact l.env, by rw [hK, hm]; exact l.sto⟩, by rw [e]; exact fun μ' b H' p x S r => q μ' b H' p (by rw [← hK]; exact x) (by rw [← hK, ← hm]; exact S) (by show RelW X.K μ' H' a b; rw [← hK]; exact r)⟩⟩
theorem qt0 {X X' : Cx} {e : List Expr} {f : FT} (hK : X'.K = X.K) (hm : X'.mg = X.mg) (h : STs X' e f) : QTs X' e (tG0 X relB f) := ⟨h.h.imp fun σ H Q ⟨μ, ρ, st, a, st', l, e, q⟩ => ⟨μ, ρ, st, ⟨by rw [hK]; exact l.env, by rw [hK, hm]; exact l.sto⟩, by rw [e]; exact fun μ' b H' p x S r => q μ' b H' p (by rw [← hK]; exact x) (by rw [← hK, ← hm]; exact S) r⟩⟩
theorem qg0 {X X' : Cx} {e : Expr} {f : FG} (hK : X'.K = X.K) (hm : X'.mg = X.mg) (h : SG X' e f) : QG X' e (tTg X f) := ⟨h.h.imp fun v σ H Q ⟨μ, ρ, st, w, ρ', l, r, e, q⟩ => ⟨μ, ρ, st, w, ρ', ⟨by rw [hK]; exact l.env, by rw [hK, hm]; exact l.sto⟩, by rw [hK]; exact r, e, fun σ' l' => q σ' ⟨by rw [← hK]; exact l'.env, by rw [← hK, ← hm]; exact l'.sto⟩⟩⟩
theorem s_comp (hB : capB X.env.scope.names scope.names nm cap X.N = true) (hcells : X.env.cells = cellsFrom m X.env.scope.names []) (hi : SI X tg iter fi) (hg : ∀ cl C s0 H0 fp, SG (cxComp X nm scope cl C s0 H0 fp) tg f) (ht : ∀ cl C s0 H0 fp, STs (cxComp X nm scope cl C s0 H0 fp) ifs t)
    (he : ∀ cl C s0 H0 fp, SE (cxComp X nm scope cl C s0 H0 fp) elt el) (hcalm : X.calm = true := by rfl) (hkind : scope.kind = .function := by rfl) (hs : ∀ x, foldedSetIterable iter X.env x = pure x := by intro _; rfl) :
    SE X (.ListComp elt [⟨tg, iter, ifs, 0⟩] scope pos) (eComp cap fi f t el) :=
  ⟨(q_comp hcalm hcells hkind hB ⟨hi.h⟩ (fun cl C s0 H0 fp => qg0 (X := X) rfl rfl (hg cl C s0 H0 fp)) (fun cl C s0 H0 fp => qt0 (X := X) rfl rfl (ht cl C s0 H0 fp)) (fun cl C s0 H0 fp => qe0 (X := X) rfl rfl (he cl C s0 H0 fp)) hs).h.imp fun _ _ _ h => comp_t h⟩
theorem ss_setComp {x0 : Str} {p0 p1 : Pos} {i : Nat} (hgx : SG X (.Name x0 p0) (gNm i)) (hB : capB X.env.scope.names scope.names nm cap X.N = true) (hcells : X.env.cells = cellsFrom m X.env.scope.names []) (hi : SI X tg iter fi) (hg : ∀ cl C s0 H0 fp, SG (cxComp X nm scope cl C s0 H0 fp) tg f) (ht : ∀ cl C s0 H0 fp, STs (cxComp X nm scope cl C s0 H0 fp) ifs t)
    (he : ∀ cl C s0 H0 fp, SE (cxComp X nm scope cl C s0 H0 fp) elt el) (hcalm : X.calm = true := by rfl) (hkind : scope.kind = .function := by rfl) (hs : ∀ x, foldedSetIterable iter X.env x = pure x := by intro _; rfl)
    (hsw : swapsWith (.ListComp elt [⟨tg, iter, ifs, 0⟩] scope pos) (some (.Name x0 p0)) p1.line X.env = pure true := by first | rfl | kernel_rfl) :
    SS X (.Assign [.Name x0 p0] (.ListComp elt [⟨tg, iter, ifs, 0⟩] scope pos) p1) (xAsg (eComp cap fi f t el) (gNm i)) :=
  ⟨(qs_setComp ⟨hgx.h⟩ hcalm hcells hkind hB ⟨hi.h⟩ (fun cl C s0 H0 fp => qg0 (X := X) rfl rfl (hg cl C s0 H0 fp)) (fun cl C s0 H0 fp => qt0 (X := X) rfl rfl (ht cl C s0 H0 fp)) (fun cl C s0 H0 fp => qe0 (X := X) rfl rfl (he cl C s0 H0 fp)) hs hsw).h.imp fun D σ H h => by
    obtain ⟨μ, ρ, st, l, h⟩ := h
    have h' : tE X (eComp cap fi f t el) σ H fun x H1 => tTg X (gNm i) x σ H1 D.nx := ⟨μ, ρ, st, l, RK.stmt h l fun μ1 st1 x v H1 p1 x1 l1 q1 h1 => ⟨μ1, ρ, st1, x, ρ.set i (some x), l1, q1, rfl, fun σ' l' => h1 μ1 σ' H1 (List.prefix_refl _) Ext.refl l'⟩⟩
    exact comp_t h'⟩
end
end L2
set_option Elab.async false
set_option linter.all false
set_option maxRecDepth 100000
set_option maxHeartbeats 4000000
namespace L2
open PySem PySem.Spec PyProof.Rows
section
variable {X : Cx} {a b c e o tg : Expr} {es : List Expr} {pos p p2 apos cpos : Pos} {x name : Str} {fa fb fc fe fo : FE} {fs : FA}
theorem walk_vals {μ : List Addr} {H : Hp} {ws : List W} {vals : List V} (hr : ∀ μ H, RelWs X.K μ H ws vals) : WalkOk X (Itv vals) (ws, none) μ H := fun i μ' st' H' pp xx S _ => by
  have hl : ws.length = vals.length := (hr μ H).len
  refine ⟨fun w hw => ?_, fun h => by show vals.length ≤ i; rw [← hl]; exact h⟩
  obtain ⟨v, g1, g2⟩ := (hr μ' H').get hw
  refine ⟨(List.getElem?_eq_some_iff.mp g1).1, fun y H'' hy => ?_⟩
  obtain ⟨rfl, hy⟩ := hy
  rw [g1] at hy; cases hy
  exact ⟨Ext.refl, S, g2⟩
def signsW (l : List Nat) : List W := l.map fun c => .str [c]
theorem signs_rel (l : List Nat) (μ : List Addr) (H : Hp) : RelWs X.K μ H (signsW l) (signsV l) := by
  induction l with
  | nil => exact .nilI
  | cons a r ih => exact .consI .str ih
def itStr (fe : FE) : FI := fun ρ st => (fe ρ st).bind fun x st => match x with
  | .str l => .ok (signsW l, none) st
  | _ => .bad
theorem si_str (he : SE X e fe) : SI X tg e (itStr fe) := ⟨(pi_str he.h).imp fun σ H R h => by
  obtain ⟨μ, ρ, st, l, h⟩ := h
  refine ⟨μ, ρ, st, l, RK.bind h l fun μ1 st1 x v H1 p1 x1 l1 q1 h1 => ?_⟩
  cases x with
  | str z => exact ⟨z, q1.strE, h1 μ1 _ H1 (List.prefix_refl _) Ext.refl l1.sto (walk_vals (signs_rel z))⟩
  | _ => exact h1.elim⟩
/-- a tuple, a list, a text -/
def itAny (fe : FE) : FI := fun ρ st => (fe ρ st).bind fun x st => match x with
  | .tup ws => .ok (ws, none) st
  | .loc n => (match lstOf st n with
    | some ws => .ok (ws, some (n, ws)) st
    | none => .bad)
  | .str l => .ok (signsW l, none) st
  | _ => .bad
theorem si_any (he : SE X e fe) : SI X tg e (itAny fe) := ⟨fun pins s σ H Rr I h => by
  obtain ⟨μ, ρ, st, l, h⟩ := h
  cases e1 : fe ρ st with
  | bad => simp only [itAny, e1, R.bind_bad] at h; exact h.elim
  | ex c st1 =>
    refine (si_tup (tg := tg) he).h pins s σ H Rr I ⟨μ, ρ, st, l, ?_⟩
    simp only [itAny, itTup, e1, R.bind_ex] at h ⊢; exact h
  | ok w st1 =>
    cases w with
    | tup ws =>
      refine (si_tup (tg := tg) he).h pins s σ H Rr I ⟨μ, ρ, st, l, ?_⟩
      simp only [itAny, itTup, e1, R.bind_ok] at h ⊢; exact h
    | loc n =>
      refine (si_lst (tg := tg) he).h pins s σ H Rr I ⟨μ, ρ, st, l, ?_⟩
      simp only [itAny, itLst, e1, R.bind_ok] at h ⊢; exact h
    | str z =>
      refine (si_str (tg := tg) he).h pins s σ H Rr I ⟨μ, ρ, st, l, ?_⟩
      simp only [itAny, itStr, e1, R.bind_ok] at h ⊢; exact h
    | _ => simp only [itAny, e1, R.bind_ok] at h; exact h.elim⟩
def eNeg (fa : FE) : FE := fun ρ st => (fa ρ st).bind fun x st => match x with
  | .int i => .ok (.int (-i)) st
  | _ => .bad
theorem s_neg (ha : SE X a fa) : SE X (.UnaryOp .USub a pos) (eNeg fa) := ⟨(pe_un un_neg ha.h).imp fun σ H Q h => by
  obtain ⟨μ, ρ, st, l, h⟩ := h
  refine ⟨μ, ρ, st, l, RK.bind h l fun μ1 st1 x v H1 p1 x1 l1 q1 h1 => ?_⟩
  cases x with
  | int k => exact ⟨k, q1.intE, h1 μ1 _ H1 (List.prefix_refl _) Ext.refl l1.sto .int⟩
  | _ => exact h1.elim⟩
/-- a <= b: ints, texts of one sign -/
def wLeD (x y : W) (st : List Cell) : R W := match x, y with
  | .int i, .int j => .ok (.bl (decide (i ≤ j))) st
  | .str [c], .str [d] => .ok (.bl (decide (c ≤ d))) st
  | _, _ => .bad
theorem w_leD : OpW X (compareOp .LtE) wLeD := ⟨fun pins s σ H x y v u Q I rv ru ⟨μ, st, wx, wy, S, rx, ry, q⟩ => by
  unfold wLeD at q
  split at q
  · exact op_le pins s σ H x y v u Q I rv ru ⟨_, _, rx.intE, ry.intE, okW_bl S q⟩
  · exact op_le_one pins s σ H x y v u Q I rv ru ⟨_, _, rx.strE, ry.strE, okW_bl S q⟩
  · exact q.elim, fun x y st => by unfold wLeD; split <;> trivial⟩
end
/-- texts in order -/
def insT (c : List Nat) : List (List Nat) → List (List Nat)
  | [] => [c]
  | d :: r => if c < d then c :: d :: r else d :: insT c r
def sortT (l : List (List Nat)) : List (List Nat) := l.foldr insT []
theorem insT_perm (c : List Nat) : ∀ l : List (List Nat), (insT c l).Perm (c :: l)
  | [] => List.Perm.refl _
  | d :: r => by
    unfold insT
    split
    · exact List.Perm.refl _
    · exact ((insT_perm c r).cons d).trans (List.Perm.swap c d r)
theorem sortT_perm (l : List (List Nat)) : (sortT l).Perm l := by
  induction l with
  | nil => exact List.Perm.refl _
  | cons a r ih => exact (insT_perm a _).trans (ih.cons a)
def upT : List (List Nat) → Prop := List.Pairwise fun a b => ¬ b < a
theorem insT_up (c : List Nat) : ∀ {l : List (List Nat)}, upT l → upT (insT c l)
  | [], _ => by simp [insT, upT]
  | d :: r, h => by
    obtain ⟨h1, h2⟩ := List.pairwise_cons.mp h
    unfold insT
    split
    · rename_i hc
      refine List.pairwise_cons.mpr ⟨fun x hx => ?_, h⟩
      rcases List.mem_cons.mp hx with rfl | hx
      · exact fun z => List.lt_irrefl _ (List.lt_trans z hc)
      · exact fun z => h1 x hx (List.lt_trans z hc)
    · rename_i hc
      refine List.pairwise_cons.mpr ⟨fun x hx => ?_, insT_up c h2⟩
      rcases List.mem_cons.mp ((insT_perm c r).mem_iff.mp hx) with rfl | hx
      · exact hc
      · exact h1 x hx
theorem sortT_up (l : List (List Nat)) : upT (sortT l) := by
  induction l with
  | nil => exact List.Pairwise.nil
  | cons a r ih => exact insT_up a ih
theorem upT_one : ∀ {l m : List (List Nat)}, upT l → upT m → l.Perm m → l = m
  | [], m, _, _, h => (List.Perm.nil_eq h)
  | a :: l, [], _, _, h => (by have := h.length_eq; simp at this)
  | a :: l, b :: m, h1, h2, h => by
    obtain ⟨p1, p2⟩ := List.pairwise_cons.mp h1
    obtain ⟨q1, q2⟩ := List.pairwise_cons.mp h2
    have e : a = b := by
      rcases List.mem_cons.mp (h.mem_iff.mp (by simp : a ∈ a :: l)) with z | z
      · exact z
      · rcases List.mem_cons.mp (h.mem_iff.mpr (by simp : b ∈ b :: m)) with y | y
        · exact y.symm
        · exact List.le_antisymm (show a ≤ b from p1 b y) (show b ≤ a from q1 a z)
    subst e
    rw [upT_one p2 q2 (List.perm_cons a |>.mp h)]
theorem sortedS_up : ∀ {zs : List (List Nat)}, sortedS (zs.map tx) = true → upT zs := by
  have key : ∀ (zs : List (List Nat)) (p : List Nat), risingS (tx p) (zs.map tx) = true → upT (p :: zs) := by
    intro zs
    induction zs with
    | nil => intro p _; simp [upT]
    | cons a r ih =>
      intro p h
      have h' : (!ltCps a p && risingS (tx a) (r.map tx)) = true := h
      rw [Bool.and_eq_true, Bool.not_eq_true', ltCps_eq, decide_eq_false_iff_not] at h'
      have u := ih a h'.2
      refine List.pairwise_cons.mpr ⟨fun x hx => ?_, u⟩
      rcases List.mem_cons.mp hx with rfl | hx
      · exact h'.1
      · have := (List.pairwise_cons.mp u).1 x hx
        exact List.not_lt.mpr (List.le_trans (List.not_lt.mp h'.1) (List.not_lt.mp this))
  intro zs h
  cases zs with
  | nil => exact List.Pairwise.nil
  | cons a r => exact key r a h
section
variable {X : Cx} {a b c e o tg : Expr} {es : List Expr} {pos p p2 apos cpos : Pos} {x name : Str} {fa fb fc fe fo : FE} {fs : FA}
/-- sorted of a list of texts -/
def bSorted (ws : List W) (st : List Cell) : R W := match ws with
  | [.loc n] => ofO (lstOf st n) fun zs => ofO (strs? zs) fun ls => if ls.length < 64 then .ok (.loc st.length) (st ++ [.lst ((sortT ls).map W.str)]) else .bad
  | _ => .bad
theorem strs_rel {K : PySem.W.Frag} {μ : List Addr} {H : Hp} (ls : List (List Nat)) : RelWs K μ H (ls.map W.str) (ls.map fun l => V.str (tx l)) := by
  induction ls with
  | nil => exact .nilI
  | cons a r ih => exact .consI .str ih
theorem b_sorted : CallW X (.builtin "sorted") bSorted := ⟨fun pins s σ H vs us Q I rv ⟨μ, st, ws, S, r, q⟩ => by
  unfold bSorted at q
  split at q
  · rename_i n
    obtain ⟨y, rfl, ry⟩ := r.one
    cases e1 : lstOf st n with
    | none => rw [e1] at q; exact q.elim
    | some zs =>
      rw [e1, ofO_some] at q
      cases e2 : strs? zs with
      | none => rw [e2] at q; exact q.elim
      | some ls =>
        rw [e2, ofO_some] at q
        split at q
        · rename_i c
          obtain ⟨a, vs, g, hS, rz⟩ := S.lstOf e1
          obtain ⟨b1, f1, rfl⟩ := ry.locE
          rw [g] at f1; cases f1
          have := strs?_ok e2 rz
          subst this
          refine c_sorted_strs.h pins s σ H _ us Q I rv ⟨_, ls, rfl, hS, c, fun zs hp hs l H2 hl eH => ?_⟩
          subst eH
          have ez : zs = sortT ls := upT_one (sortedS_up hs) (sortT_up ls) (hp.trans (sortT_perm ls).symm)
          subst ez
          exact q (μ ++ [l]) _ _ (List.prefix_append _ _) (SqT.same (same_new hl _)) (S.newLst hl (strs_rel _)) (newLoc S)
        · exact q.elim
  · exact q.elim, fun ws st => by
  unfold bSorted
  split
  · exact ofO_n fun _ => ofO_n fun _ => by split <;> trivial
  · trivial⟩
end
end L2
set_option Elab.async false
set_option linter.all false
set_option maxRecDepth 100000
set_option maxHeartbeats 4000000
namespace L2
open PySem PySem.Spec PyProof.Rows
def W.ty : W → Option String
  | .non => some "NoneType" | .bl _ => some "bool" | .int _ => some "int" | .str _ => some "str" | .tup _ => some "tuple" | .loc _ => none
def isiT (t T : String) : Bool := (t == T) || (t == "bool" && T == "int")
theorem kit_W {K : PySem.W.Frag} {T : String} (h : knownT T) {w : W} {t : String} (hw : w.ty = some t) : PySem.W.kitOne K (.type t) (.type T) = some (isiT t T) := by
  cases w <;> simp only [W.ty] at hw <;> cases hw <;> (rcases h with rfl | rfl | rfl | rfl <;> rfl)
def eIsT (T : String) (fa : FE) : FE := fun ρ st => (fa ρ st).bind fun x st => match x.ty with
  | some t => .ok (.bl (isiT t T)) st
  | none => .bad
section
variable {X : Cx} {a b c e o tg : Expr} {es : List Expr} {pos p p2 apos cpos : Pos} {x name : Str} {fa fb fc fe fo : FE} {fs : FA}
theorem s_isT {T : String} {xT : Str} (hm : X.mg "isinstance" = none) (hT : X.mg xT = none) (hv : bootBuiltins xT = some (.type T)) (ha : SE X a fa) (hk : knownT T := by first | exact .inl rfl | exact .inr (.inl rfl) | exact .inr (.inr (.inl rfl)) | exact .inr (.inr (.inr rfl)))
    (hg : Gl X "isinstance" := by rfl) (hgT : Gl X xT := by rfl) (hn : xT ≠ "__name__" := by decide) (hd : (xT == ("__debug__" : Str)) = false := by decide)
    (he : starEach [a, .Name xT p2] X.env = (false, eval a X.env) :: starEach [.Name xT p2] X.env := by rfl) (he2 : starEach [.Name xT p2] X.env = (false, eval (.Name xT p2) X.env) :: starEach [] X.env := by rfl) (hpl : (backTo pos (starEach [.Name xT p2] X.env)).any (·.1) = false := by rfl) :
    SE X (.Call (.Name "isinstance" p) [a, .Name xT p2] [] pos) (eIsT T fa) := by
  have C : CallR X (.builtin "isinstance") (fun xs H Q => ∃ x μ st w t, xs = [x, .ty T] ∧ StR X.K X.mg μ st H ∧ RelW X.K μ H w x ∧ w.ty = some t ∧ Q (.bl (isiT t T)) H) := by
    intro pins s σ H xs us Q I r h
    obtain ⟨x, μ, st, w, t, rfl, S, rx, ht, q⟩ := h
    obtain ⟨u, u2, rfl, r1, r2⟩ := Vals.two r
    obtain rfl : u2 = .type T := r2
    have e := kit_W (K := X.K) hk ht
    cases w with
    | tup ws =>
      cases ht
      obtain ⟨p, vs, rfl, hS, _⟩ := rx.tupE
      cases (show u = Value.ref p from r1)
      obtain ⟨its, _, hp, _⟩ := I.tuple hS
      obtain ⟨o, h1, h2, _⟩ := hp
      exact up (PySem.W.kia_one PySem.W.kitx_tuple I.kIn ⟨o, h1, h2⟩ e (fun z => nomatch z) fun tk hk => ⟨.bl _, H, I.tok tk, rfl, q⟩)
    | non => cases ht; cases rx.nonE; exact up (isinst_ok I r1 .non e fun tk hk => ⟨.bl _, H, I.tok tk, rfl, q⟩)
    | bl b => cases ht; cases rx.blE; exact up (isinst_ok I r1 (.bl _) e fun tk hk => ⟨.bl _, H, I.tok tk, rfl, q⟩)
    | int b => cases ht; cases rx.intE; exact up (isinst_ok I r1 (.int _) e fun tk hk => ⟨.bl _, H, I.tok tk, rfl, q⟩)
    | str b => cases ht; cases rx.strE; exact up (isinst_ok I r1 (.str _) e fun tk hk => ⟨.bl _, H, I.tok tk, rfl, q⟩)
    | loc b => cases ht
  refine ⟨(pe_callB C hg hm boot_isinstance (pa_cons ha.h (pa_cons (pe_bltn hgT hT hv (v := .ty T) rfl hn hd) pa_nil he2) he) (by decide) (by decide) he hpl).imp fun σ H Q h => ?_⟩
  obtain ⟨μ, ρ, st, l, h⟩ := h
  refine ⟨μ, ρ, st, l, RK.bind h l fun μ1 st1 x v H1 p1 x1 l1 q1 h1 => ?_⟩
  cases ht : x.ty with
  | none => rw [ht] at h1; exact h1.elim
  | some t =>
    rw [ht] at h1
    exact ⟨v, μ1, st1, x, t, rfl, l1.sto, q1, ht, h1 μ1 _ H1 (List.prefix_refl _) Ext.refl l1.sto .bl⟩
/-- nothing is said of what is asked at depth 0 -/
theorem hasW_bad {P : Program} {w : World} {K : PySem.W.Frag} {mg : Str → Option Value} {base : Heap} {k n : Nat} {x : Str} {st : Stmt} {f : Addr} {fd : FuncData} {ps : List Str}
    (F : Fun K x x st f fd) (hm : mg x = some (.ref f)) (hn : ps.length = n)
    (hb : ∀ (kV doc pm : Value) (an : Option Addr) (cdv ct : Value) (us : List Value), us.length = ps.length → bindArgs (PySem.W.fnOf x x (defArgs st) (defBody st) (defScope st) .none kV doc pm an cdv ct) ⟨us, []⟩ = pure (ps.zip us)) :
    HasW P w K mg base k x n (fun _ _ => .bad) := hasW_mk F hm hn hb ⟨fun vs H Q E h => by rw [hn]; exact h.1, fun _ _ _ _ _ _ _ _ _ _ _ _ _ _ h => by obtain ⟨_, _, _, _, _, _, z⟩ := h; exact z.elim⟩
end
/-- the law's function tells True of every row of ints -/
def LawOk (F : List W → List Cell → R W) : Prop := ∀ ns : List Int, ns.length ≤ 63 → ∃ st', F [.loc 0] [.ro (ns.map W.int)] = .ok (.bl true) st'
theorem walkW {l : PySem.W.OpenLaw} {k : Nat} {q : Program} {loose : List Str} {XP : (Str → Option Value) → Heap → Prop} {YP : World → Heap → Prop} {d : DefRec} {K : Params → PySem.W.Frag} {x : Str} {G : List W → List Cell → R W} (hn : l.most = some 63) (hdf : d.params.defaults = []) (hr : Room k callerA)
    (hY : ∀ (w : World) (h : Heap), YP w h → (K w.params).In h)
    (F : ∀ (w : World) (mg : Str → Option Value) (fa : Addr) (h : Heap), (K w.params).In h → h.Ns mainGlobals mg → mg d.name = some (.ref fa) →
      ∃ fd : FuncData, fd.scope.names.lookup x = some .local ∧ (∀ (s : Shared) (u : Value), BindsTo s fd ⟨[u], []⟩ [(x, u)]) ∧ ∀ base : Heap, (K w.params).In base → base.Ns mainGlobals mg → FnOk l.prog w (K w.params) mg base (CX1 l.prog w) k fa fd [x] (spW (K w.params) mg 1 G))
    (ok : LawOk G) : PySem.W.WalkO q loose XP YP l.row.toRowW d [] (fun f vs => PySem.call f vs) := by
  refine L2.walk_of (n := 63) (k := k) (x := x) (CX := fun w => CX1 l.prog w)
    (sp := fun w => fun vs H Q E => ∃ (a : Addr) (ns : List Int), vs = [.ref a] ∧ SqL (K w.params) H a (ns.map V.int) ∧ Only H ∧ ns.length ≤ 63 ∧ ∀ H', Q (.bl true) H') hn (by decide) hdf hr hY (fun w mg fa h h1 h2 h3 => ?_)
    (fun w H a ns hl hO hS => ⟨a, ns, rfl, hS, hO, hl, fun _ => rfl⟩) fun w H s e s' z => ?_
  · obtain ⟨fd, hlo, hb, ho⟩ := F w mg fa h h1 h2 h3
    refine ⟨fd, hlo, hb, fun base kb nb => (ho base kb nb).imp fun vs H Q E hh => ?_⟩
    obtain ⟨a, ns, rfl, hS, hO, hl, q⟩ := hh
    obtain ⟨st', e⟩ := ok ns hl
    have hro : RoL (K w.params) H a (ns.map V.int) := by
      rcases hS with (z | ⟨o, z⟩) | z
      · rcases hO a with y | ⟨o, xs, y⟩
        · rw [z] at y; cases y
        · rw [z] at y; cases y
      · exact .inl ⟨o, z⟩
      · exact .inr z
    have hr : RelWs (K w.params) [a] H (ns.map W.int) (ns.map V.int) := by
      clear hS hro e hl
      induction ns with
      | nil => exact .nilI
      | cons n r ih => exact .consI .int ih
    refine ⟨rfl, [a], [.loc 0], [.ro (ns.map W.int)], ⟨fun i j b ci cj c1 c2 r1 r2 m1 m2 => ?_, rfl, fun i c b c1 c2 => ?_⟩, .consI (.locI rfl) .nilI, ?_⟩
    · cases i with
      | zero => cases c1; cases r1
      | succ i => simp at c1
    · cases i with
      | zero => cases c1; cases c2; exact ⟨_, hro, hr⟩
      | succ i => simp at c1
    · rw [e]
      intro μ' v H' _ _ _ rv
      rw [rv.blE]; exact q H'
  · obtain ⟨_, _, _, _, _, _, z, _⟩ := z
    exact z
end L2
set_option Elab.async false
set_option linter.all false
set_option maxRecDepth 100000
set_option maxHeartbeats 4000000
namespace L2
open PySem PySem.Spec PyProof.Rows
end L2
set_option Elab.async false
set_option linter.all false
set_option maxRecDepth 100000
set_option maxHeartbeats 4000000
namespace L2
open PySem PySem.Spec PyProof.Rows
/-- within an except suite -/
abbrev Cx.within (X : Cx) (v : Value) : Cx := { X with A := X.A.mark (some v), calm := false, xe := fun _ _ => False }
theorem Cx.Ok.within {X : Cx} (k : X.Ok) (v : Value) : (X.within v).Ok := ⟨k.mod, k.kind, k.glob, k.blt, k.above, k.inj, k.has, k.cab, (fun z => by cases z), k.frames, k.stk, k.exf, k.bs, k.bsz, k.noex, k.exfs, k.funs, k.frf⟩
section
variable {X : Cx} {pins : List (Addr × Obj)} {σ : St} {H : Hp} {s : Shared}
theorem Inv.within (I : Inv X pins σ H s) (v : Value) : Inv (X.within v) pins σ H s := ⟨I.ok.within v, I.os, I.bare, I.base, I.loc, I.cell, I.free, I.freeC, I.pin, I.hok, I.len, I.pos, I.tk⟩
theorem Inv.out {v : Value} (ok : X.Ok) (I : Inv (X.within v) pins σ H s) : Inv X pins σ H s := ⟨ok, I.os, I.bare, I.base, I.loc, I.cell, I.free, I.freeC, I.pin, I.hok, I.len, I.pos, I.tk⟩
end
end L2
set_option Elab.async false
set_option linter.all false
set_option maxRecDepth 100000
set_option maxHeartbeats 4000000
namespace L2
open PySem PySem.Spec PyProof.Rows
open AutoSeq1 (wpAny_loadPart')
section
variable {X : Cx}
end
end L2
set_option Elab.async false
set_option linter.all false
set_option maxRecDepth 100000
set_option maxHeartbeats 4000000
namespace L2
open PySem PySem.Spec PyProof.Rows
section
variable {X : Cx} {a b c e o tg : Expr} {es : List Expr} {pos p p2 : Pos} {fa fb fe fo : FE} {fs : FA}
end
end L2
set_option Elab.async false
set_option linter.all false
set_option maxRecDepth 100000
set_option maxHeartbeats 4000000
namespace L2
open PySem PySem.Spec PyProof.Rows
def behind (i : Nat) : RS → RS
  | .nx ρ st => .nx (ρ.set i none) st
  | .bk ρ st => .bk (ρ.set i none) st
  | .ct ρ st => .ct (ρ.set i none) st
  | .rt w st => .rt w st
  | _ => .bad
end L2
set_option Elab.async false
set_option linter.all false
set_option maxRecDepth 100000
set_option maxHeartbeats 4000000
namespace L2
open PySem PySem.Spec PyProof.Rows
section
variable {prog : Program} {w : World} {A : Around} {E : Value → Shared → Prop} {h : Heap} {g : Array GenState} {d : Drawn} {t : Nat} {os : OsState} {a : Addr} {o : Obj}
  {nm q : Str} {C N : Addr} {bs bm : List Value} {hdct : Bool} {sn : List Str} {sub : List Value} {ab : Bool} {col : Option Bool} {dd : Option Addr} {k0 k1 k2 k3 k5 : Option Value} {newId : String} {K : PySem.W.Frag}
end
end L2
set_option Elab.async false
set_option linter.all false
set_option maxRecDepth 100000
set_option maxHeartbeats 4000000
namespace L2
variable {nk : Nat}
open PySem PySem.Spec PyProof.Rows
section
variable {X : Cx} {a : Expr} {pos p p2 : Pos} {fa : FE}
end
end L2
set_option Elab.async false
set_option linter.all false
set_option maxRecDepth 100000
set_option maxHeartbeats 4000000
namespace L2
variable {nk : Nat}
open PySem PySem.Spec PyProof.Rows
section
variable {X : Cx} {a : Expr} {pos p p2 : Pos} {fa : FE} {es : List Expr} {k : Nat}
end
end L2
set_option Elab.async false
set_option linter.all false
set_option maxRecDepth 100000
set_option maxHeartbeats 4000000
namespace L2
open PySem PySem.Spec PyProof.Rows
section
variable {X : Cx}
end
end L2
set_option Elab.async false
set_option linter.all false
set_option maxRecDepth 100000
set_option maxHeartbeats 4000000
namespace L2
open PySem PySem.Spec PyProof.Rows
section
variable {X : Cx}
theorem foldl_repN {α : Type} (l : List α) : ∀ (k : Nat) (acc : List α), List.foldl (fun x1 x2 => x1 ++ x2) acc.toArray (List.replicate k l.toArray) = (acc ++ (List.replicate k l).flatten).toArray
  | 0, acc => by simp
  | k + 1, acc => by
    have e : acc.toArray ++ l.toArray = (acc ++ l).toArray := by simp
    rw [List.replicate_succ, List.foldl_cons, e, foldl_repN l k (acc ++ l), List.replicate_succ, List.flatten_cons, List.append_assoc]
theorem tx_mul (l : List Nat) (n : Int) : Txt.mul (tx l) n = tx (List.replicate n.toNat l).flatten := by
  unfold Txt.mul
  by_cases h : n < 1
  · rw [if_pos h, show n.toNat = 0 by omega]; rfl
  · rw [if_neg h]
    split
    · rename_i hc
      rw [Bool.or_eq_true, beq_iff_eq, beq_iff_eq, tx_len] at hc
      rcases hc with rfl | hc
      · simp
      · have : l = [] := List.length_eq_zero_iff.mp hc
        subst this
        simp
    · have := foldl_repN l n.toNat []
      rw [List.nil_append] at this
      show Str.mk _ = Str.mk _
      congr 1
theorem op_mulS : OpR X (binaryOp .Mult) (fun x y H Q => ∃ (l : List Nat) (k : Int), x = .str (tx l) ∧ y = .int k ∧ -(2 ^ 62) ≤ k ∧ k < 2 ^ 62 ∧ l.length * k.toNat ≤ 1000000 ∧ l.length * k.toNat ≠ 1 ∧ Q (.str (tx (List.replicate k.toNat l).flatten)) H) := by
  intro pins s σ H x y v u Q I rx ry h
  obtain ⟨l, k, rfl, rfl, h1, h2, h3, h31, q⟩ := h
  obtain ⟨t, rfl⟩ := rx
  obtain ⟨t', rfl⟩ := ry
  refine up (SB.mul ⟨?_, ?_, ?_⟩ fun t2 tk hk => ⟨.str _, H, I.tok _, ⟨⟨t2, fun e => absurd e ?_⟩, ?_⟩, q⟩)
  · simp; omega
  · intro hk hx
    rw [tx_len]
    intro hg
    have hk1 : 1 ≤ k := by omega
    have : k * ((2 ^ 63 - 1) / k) ≤ 2 ^ 63 - 1 := Int.mul_ediv_self_le (by omega)
    have h4 : (2 ^ 63 - 1) < k * (l.length : Int) := by
      have := Int.lt_mul_of_ediv_lt (a := 2 ^ 63 - 1) (b := (l.length : Int)) (c := k) (by omega) hg
      rw [Int.mul_comm]; exact this
    have h5 : k * (l.length : Int) = ((l.length * k.toNat : Nat) : Int) := by
      rw [Int.natCast_mul, Int.toNat_of_nonneg (by omega), Int.mul_comm]
    rw [h5] at h4
    omega
  · intro hk hx
    rw [tx_len]
    unfold Builtin.Str.tooLong
    rw [decide_eq_false]
    have : (1000000 : Nat) ≤ sizeLine := by decide
    omega
  · rw [tx_len]; simpa [Nat.mul_comm] using h31
  · rw [tx_mul]
def wMulA : W → W → List Cell → R W
  | .int i, .int j, st => if cMul i j then .ok (.int (i * j)) st else .bad
  | .str l, .int k, st => if -(2 ^ 62) ≤ k ∧ k < 2 ^ 62 ∧ l.length * k.toNat ≤ LIM ∧ l.length * k.toNat ≠ 1 then .ok (.str (List.replicate k.toNat l).flatten) st else .bad
  | _, _, _ => .bad
theorem w_mulA : OpW X (binaryOp .Mult) wMulA := ⟨fun pins s σ H x y v u Q I rv ru ⟨μ, st, wx, wy, S, rx, ry, q⟩ => by
  cases wx with
  | int i =>
    cases wy with
    | int j =>
      have q' : OkW X μ H Q (wMul (.int i) (.int j) st) := q
      exact w_mul.h pins s σ H x y v u Q I rv ru ⟨μ, st, .int i, .int j, S, rx, ry, q'⟩
    | _ => exact q.elim
  | str l =>
    cases wy with
    | int k =>
      simp only [wMulA] at q
      split at q
      · rename_i cc
        exact op_mulS pins s σ H x y v u Q I rv ru ⟨l, k, rx.strE, ry.intE, cc.1, cc.2.1, cc.2.2.1, cc.2.2.2, okW_str S q⟩
      · exact q.elim
    | _ => exact q.elim
  | _ => cases wy <;> exact q.elim, fun x y st => by
  unfold wMulA
  repeat' split
  all_goals trivial⟩
end
end L2
set_option Elab.async false
set_option linter.all false
set_option maxRecDepth 100000
set_option maxHeartbeats 4000000
namespace L2
open PySem PySem.Spec PyProof.Rows
structure RoomH (k : Nat) (A : Around) : Prop where
  dp : A.depth + 2 * k + 5 < recursionLimit
  un : A.units + 16 * k + 200 < cLine
theorem Room.h {k : Nat} {A : Around} (r : Room k A) (v : Option Value) : RoomH k (A.mark v) := ⟨r.dp, r.un⟩
theorem RoomH.mono {j k : Nat} {A : Around} (r : RoomH k A) (h : j ≤ k) : RoomH j A := ⟨by have := r.dp; omega, by have := r.un; omega⟩
theorem RoomH.units {k : Nat} {A : Around} (r : RoomH k A) : A.units + 64 < cLine := by have := r.un; omega
structure FnOkH (P : Program) (w : World) (K : PySem.W.Frag) (mg : Str → Option Value) (base : Heap) (CX : CXT) (k : Nat) (f : Addr) (fd : FuncData) (ps : List Str) (sp : Sp) : Prop where
  len : ∀ vs H Q E, sp vs H Q E → vs.length = ps.length
  run : ∀ (A : Around) (outer : List Env) (s : Shared) (H : Hp) (args : Args) (us : List Value) (vs : List V) (Q : VK) (E : XK), RoomH k A → Env0 P w K mg base A outer s H → 0 < s.toks → BindsTo s fd args (ps.zip us) → Vals s.toks vs us → sp vs H Q E →
    codeAny (model P w) A (.call (.ref f) args) (CR CX outer P w H s Q E) s
theorem FnOkH.mono {P : Program} {w : World} {K : PySem.W.Frag} {mg : Str → Option Value} {base : Heap} {CX : CXT} {j k : Nat} {f : Addr} {fd : FuncData} {ps : List Str} {sp : Sp} (F : FnOkH P w K mg base CX j f fd ps sp) (h : j ≤ k) :
    FnOkH P w K mg base CX k f fd ps sp := ⟨F.len, fun A outer s H args us vs Q E hr => F.run A outer s H args us vs Q E (hr.mono h)⟩
structure HasH (P : Program) (w : World) (K : PySem.W.Frag) (mg : Str → Option Value) (base : Heap) (k : Nat) (x : Str) (n : Nat) (F : List W → List Cell → R W) : Prop where
  ex : ∃ (f : Addr) (fd : FuncData) (ps : List Str), mg x = some (.ref f) ∧ PySem.W.keepIn K (.ref f) = true ∧ ps.length = n ∧ Binds K fd ps [] ∧ FnOkH P w K mg base (CX1 P w) k f fd ps (spW K mg n F)
theorem HasH.mono {P : Program} {w : World} {K : PySem.W.Frag} {mg : Str → Option Value} {base : Heap} {j k : Nat} {x : Str} {n : Nat} {F : List W → List Cell → R W} (h : HasH P w K mg base j x n F) (hj : j ≤ k) : HasH P w K mg base k x n F := by
  obtain ⟨f, fd, ps, a, b, c, d, e⟩ := h.ex
  exact ⟨f, fd, ps, a, b, c, d, e.mono hj⟩
section
variable {X : Cx}
variable {e : Expr} {es : List Expr} {pos p : Pos} {x : Str} {fs : FA}
end
end L2

set_option Elab.async false
set_option linter.all false
set_option maxRecDepth 100000
set_option maxHeartbeats 4000000
namespace L2
open PySem PySem.Spec PyProof.Rows
section
variable {prog : Program} {w : World} {A : Around} {E : Value → Shared → Prop} {s : Shared}
theorem signs_strs : ∀ (l : List Nat) (vs : List Value), vs.length = l.length → (∀ (j : Nat) (v : Value), vs[j]? = some v → ∃ c u, l[j]? = some c ∧ v = .str (tx [c]) u) → StrsAre vs (l.map fun c => tx [c])
  | [], [], _, _ => .nil
  | c :: l, v :: vs, hl, h => by
    obtain ⟨d, u, e, rfl⟩ := h 0 v rfl
    cases e
    exact .cons _ _ (signs_strs l vs (Nat.succ.inj hl) fun j v hj => h (j + 1) v hj)
  | [], _ :: _, hl, _ => nomatch hl
  | _ :: _, [], hl, _ => nomatch hl
abbrev lsOb (acc : Array Value) (c : Nat) : Obj := { cls := .type "list", data := .seq acc c }
/-- a list goes on with what is walked; the tokens -/
theorem txt_loop {R : Result → Shared → Prop} {I : Addr} {fp wr : List Addr} {n n0 : Nat} {P : Nat → Value → Prop} {St : Nat → Heap → Prop} (W : Walks prog w A.in1 I fp wr n P St) (few : n ≤ sizeLine) (D : Addr) (hD : D ∉ fp) (res : Value)
    (hItem : ∀ i (s : Shared) (Q : Option Value → Shared → Prop) (E : Value → Shared → Prop), n0 ≤ s.toks → i < n → St i s.heap →
      (∀ v h' tk, s.toks ≤ tk → TkAll tk [v] → P i v → St (i + 1) h' → (∀ b o, b ∉ wr → s.heap.get? b = some o → h'.get? b = some o) → Q (some v) { s with heap := h', toks := tk }) → wpAny (model prog w) A.in1 (pyNext (.ref I)) Q E s) :
    ∀ (m i : Nat) (z : Shared) (got : Array Value) (c : Nat), i + m = n → n0 ≤ z.toks → St i z.heap → z.heap.get? D = some (lsOb got c) → ItemsOf P got i → TkAll z.toks got.toList →
      (∀ g tk got' c', z.toks ≤ tk → (∀ b o, b ≠ D → b ∉ wr → z.heap.get? b = some o → g.get? b = some o) → g.get? D = some (lsOb got' c') → ItemsOf P got' n → TkAll tk got'.toList → R (.ok (.ret res)) { z with heap := g, toks := tk }) →
      codeAny (model prog w) A (.builtin "list.extend.loop" ⟨[.ref D, .ref I, res], []⟩) R z := by
  have nw : D ∉ wr := fun h => hD (W.sub _ h)
  intro m
  induction m with
  | zero =>
    intro i z got c e hn0 st hd ac ta q
    obtain rfl : i = n := e
    refine codeAny_builtin PySem.F.entry_extend_loop ?_
    rw [Around.under_plainId PySem.F.plain_extend_loop _]
    show wpAny _ A.in1 (pyNext (.ref I) >>= _) _ _ z
    exact wpAny_bind (up (W.done z _ _ st fun g tk kp hle => wpAny_pure (q g tk got c hle (fun b o _ hb h => kp b o hb h) (kp D _ nw hd) ac (ta.up hle))))
  | succ m ih =>
    intro i z got c e hn0 st hd ac ta q
    refine codeAny_builtin PySem.F.entry_extend_loop ?_
    rw [Around.under_plainId PySem.F.plain_extend_loop _]
    show wpAny _ A.in1 (pyNext (.ref I) >>= _) _ _ z
    refine wpAny_bind (hItem i z _ _ hn0 (by omega) st fun v g tk hle tv hP st' kp => ?_)
    have hd' := kp D _ nw hd
    show wpAny _ A.in1 (updateSeq D (·.push v) >>= _) _ _ _
    refine wpAny_bind (wpAny_updateSeq hd' rfl (wpAny_pure ⟨plainId_quiet PySem.F.plain_extend_loop _, ih (i + 1) _ (got.push v) _ (by omega) (Nat.le_trans hn0 hle) (W.frame _ _ _ st' fun b hb o h => ?_) (Heap.get?_update_self _ hd' rfl) (ac.push hP) (fun x t hx => ?_) fun g2 tk2 got2 c2 hle2 kp2 hd2 ac2 ta2 => ?_⟩)
      (by rw [ac.1]; omega) (by show (got.push v).size ≤ sizeLine + 1; rw [Array.size_push, ac.1]; omega))
    · exact (Heap.get?_update_other _ _ (fun h : D = b => hD (by rw [h]; exact hb))).trans h
    · rw [Array.toList_push, List.mem_append] at hx
      rcases hx with hx | hx
      · exact ta.up hle x t hx
      · exact tv x t hx
    · exact q g2 tk2 got2 c2 (Nat.le_trans hle hle2) (fun b o hb hw h => kp2 b o hb hw ((Heap.get?_update_other _ _ (Ne.symm hb)).trans (kp b o hw h))) hd2 ac2 ta2
/-- all signs of a text, each with a token made now -/
theorem collect_text {l : List Nat} {t : Tok} {Q : List Value → Shared → Prop} (hpos : 0 < s.toks) (hh : A.handled = none) (few : l.length ≤ sizeLine)
    (q : ∀ g tk (got : Array Value), s.toks ≤ tk → (∀ b o, s.heap.get? b = some o → g.get? b = some o) → ItemsOf (SignAt (tx l)) got (tx l).cps.size → TkAll tk got.toList → Q got.toList { s with heap := g, toks := tk }) : wpAny (model prog w) A (collect (.str (tx l) t)) Q E s := by
  have hn : (tx l).cps.size = l.length := by simp [tx]
  unfold collect
  refine wpAny_bind (wpAny_runValue (codeAny_builtin entry_proto_collect' ?_))
  rw [Around.under_plainId PySem.F.plain_proto_collect _]
  show wpAny _ A.in1 (newList [] >>= fun d => again (.builtin "list.__iadd__" ⟨[d, .str (tx l) t], []⟩)) _ _ s
  refine wpAny_bind (wpAny_newObj_type (wpAny_pure ⟨plainId_quiet PySem.F.plain_list_iadd _, codeAny_builtin entry_list_iadd' ?_⟩))
  rw [Around.under_plainId PySem.F.plain_list_iadd _]
  show wpAny _ A.in1 (Builtin.List.listExtendWith (.ref s.heap.objs.size) (.str (tx l) t) (.ref s.heap.objs.size)) _ _ _
  unfold Builtin.List.listExtendWith
  refine wpAny_bind (wpAny_typeOf (T := "str") (v := .str (tx l) t) rfl ?_)
  have e1 : Builtin.List.listSameRef (.ref s.heap.objs.size) (.str (tx l) t) = false := rfl
  have e2 : (Value.type "str" == Value.type "list") = false := by decide
  have e3 : (Value.type "str" == Value.type "tuple") = false := by decide
  simp only [e1, e2, e3, Bool.or_false, Bool.false_eq_true, if_false]
  generalize hL : s.heap.objs.size = L
  have gL : (s.heap.push { cls := .type "list", data := .seq ([] : List Value).toArray }).get? L = some (lsOb #[] 0) := by rw [← hL]; exact Heap.get?_push_size _ rfl
  have z1 : (s.heap.push { cls := .type "list", data := .seq ([] : List Value).toArray }).objs.size = L + 1 := by rw [Heap.size_push, hL]
  have kp1 : ∀ b o, s.heap.get? b = some o → (s.heap.push { cls := .type "list", data := .seq ([] : List Value).toArray }).get? b = some o := fun b o e => Heap.get?_push_of_some _ e
  generalize s.heap.push { cls := .type "list", data := .seq ([] : List Value).toArray } = g1 at gL z1 kp1 ⊢
  have fin : ∀ (ob : Obj) (ty : String), (∀ A : Around, A.handled = none → Walks prog w A (L + 1) [L + 1] [L + 1] (tx l).cps.size (SignAt (tx l)) (fun i h => h.IsStrIter (L + 1) ty (tx l) t i)) → (g1.push ob).IsStrIter (L + 1) ty (tx l) t 0 →
      (∀ {A : Around} {s : Shared} {i c : Nat} {Q : Option Value → Shared → Prop} {E : Value → Shared → Prop}, s.heap.IsStrIter (L + 1) ty (tx l) t i → (tx l).cps[i]? = some c →
        (∀ h', h'.IsStrIter (L + 1) ty (tx l) t (i + 1) → Heap.SameBut (L + 1) s.heap h' → Q (some (.str ⟨#[c]⟩ s.toks)) { s with heap := h', toks := s.toks + 1 }) → wpAny (model prog w) A (pyNext (.ref (L + 1))) Q E s) →
      codeAny (model prog w) A (.builtin "list.extend.loop" ⟨[.ref L, .ref (L + 1), .ref L], []⟩) (wants (fun r s' => wpAny (model prog w) A (match r with | .ref a => (do match (← load a).data with | .seq xs _ => pure xs.toList | _ => unsupported "internal:collect") | _ => unsupported "internal:collect") Q E s') E) { s with heap := g1.push ob } := fun ob ty W h0 next => by
    refine txt_loop (n0 := s.toks) (W A.in1 (by simpa using hh)) (by rw [hn]; exact few) L (by simp) (.ref L) (fun i s' Q E hn0 hi st q => ?_) (tx l).cps.size 0 _ #[] 0 (by omega) (Nat.le_refl _) h0 (Heap.get?_push_of_some _ gL) (ItemsOf.nil _) (fun x u hx => by simp at hx) fun g tk got c hle kp hd ac ta => ?_
    · obtain ⟨c, hx⟩ : ∃ c, (tx l).cps[i]? = some c := ⟨_, Array.getElem?_eq_getElem hi⟩
      refine next st hx fun h' st' hs => q _ h' (s'.toks + 1) (Nat.le_succ _) (fun x u hx' _ => ?_) ⟨c, _, hx, rfl⟩ st' fun b o hb e => hs.extBut b o (fun z => hb (by simp [z])) e
      rw [List.mem_singleton] at hx'
      cases hx'
      exact ⟨Nat.lt_of_lt_of_le hpos hn0, Nat.lt_succ_self _⟩
    · refine wpAny_bind (wpAny_load hd (wpAny_pure (q g tk got hle (fun b o e => kp b o ?_ ?_ (Heap.get?_push_of_some _ (kp1 b o e))) ac ta)))
      · rw [← hL]; exact Nat.ne_of_lt (Heap.lt_size e)
      · intro hm
        rw [List.mem_singleton] at hm
        have := Heap.lt_size e
        rw [hL, hm] at this
        have this : L + 1 < L := this
        omega
  have hint : ∀ (s' : Shared) (Q' : Bool → Shared → Prop) (E' : Value → Shared → Prop), Q' false s' → wpAny (model prog w) A.in1 (Builtin.List.listLengthHint (.str (tx l) t)) Q' E' s' := fun s' Q' E' y => by
    unfold Builtin.List.listLengthHint
    refine wpAny_bind (wpAny_specialOf (T := "str") (v := .str (tx l) t) rfl PySem.F.str_len ?_)
    wp_delta
    refine wpAny_bind (wpAny_isInstance (T := "str") (v := .str (tx l) t) (b := true) rfl (by rw [isSubtype_type]; kernel_rfl) ?_)
    show wpAny _ A.in1 (typeOf (Value.str (tx l) t) >>= _) _ _ _
    exact wpAny_bind (wpAny_typeOf (T := "str") (v := .str (tx l) t) rfl (wpAny_pure y))
  have key : ∀ (ob : Obj), codeAny (model prog w) A (.builtin "list.extend.loop" ⟨[.ref L, .ref (L + 1), .ref L], []⟩) (wants (fun r s' => wpAny (model prog w) A (match r with | .ref a => (do match (← load a).data with | .seq xs _ => pure xs.toList | _ => unsupported "internal:collect") | _ => unsupported "internal:collect") Q E s') E) { s with heap := g1.push ob } → _ := fun ob h => h
  cases ha : (tx l).cps.all (· < 128)
  · refine wpAny_bind (wpAny_pyIter_wide ha (wpAny_bind (wpAny_holding (hint _ _ _ ?_))))
    show wpAny _ _ _ _ _ _
    rw [show Shared.heap { s with heap := g1 } = g1 from rfl, z1]
    rw [if_neg (by decide)]
    exact wpAny_pure ⟨plainId_quiet PySem.F.plain_extend_loop _, fin _ "str_iterator" (fun A hA => Walks.strWide hA _ (tx l) t) ⟨_, by rw [← z1]; exact Heap.get?_push_size _ rfl, rfl, rfl⟩ fun a b c => wpAny_pyNext_wide_item a b c⟩
  · refine wpAny_bind (wpAny_pyIter_ascii ha (wpAny_bind (wpAny_holding (hint _ _ _ ?_))))
    rw [show Shared.heap { s with heap := g1 } = g1 from rfl, z1]
    rw [if_neg (by decide)]
    exact wpAny_pure ⟨plainId_quiet PySem.F.plain_extend_loop _, fin _ "str_ascii_iterator" (fun A hA => Walks.strAscii hA _ (tx l) t) ⟨_, by rw [← z1]; exact Heap.get?_push_size _ rfl, rfl, rfl⟩ fun a b c => wpAny_pyNext_ascii_item a b c⟩
/-- sorted(text): a new list, rising -/
theorem sorted_text {l : List Nat} {t : Tok} {Q : Value → Shared → Prop} (hpos : 0 < s.toks) (few : l.length < 64) (hh : A.handled = none)
    (q : ∀ (s1 : Shared) (g1 : Heap) (out : Array Value) (ss : List Str) (e : Nat), (∀ b o, s.heap.get? b = some o → s1.heap.get? b = some o) → s1.gens = s.gens → s1.drawn = s.drawn → s1.os = s.os → (∀ b o, s1.heap.get? b = some o → g1.get? b = some o) → g1.get? s1.heap.objs.size = some (seqObj "list" out e) →
      s.toks ≤ s1.toks → TkAll s1.toks out.toList → StrsAre out.toList ss → ss.Perm (l.map fun c => tx [c]) → sortedS ss = true → Q (.ref s1.heap.objs.size) { s1 with heap := g1 }) : wpAny (model prog w) A (call (.builtin "sorted") [.str (tx l) t]) Q E s := by
  have hn : (tx l).cps.size = l.length := by simp [tx]
  apply Calls.call_function_entry kind_sorted plain_sorted entry_sorted (args_sorted1 _)
  show wpAny _ _ (checkCount "sorted" 1 1 _ >>= _) _ _ _
  refine wpAny_bind (wpAny_pure (wpAny_bind (collect_text hpos (by simpa using hh) (by rw [sizeLine_eq]; omega) (fun g tk acc hle kp ha ta => ?_))))
  generalize hs1 : ({ s with heap := g, toks := tk } : Shared) = s1
  have eg : s1.gens = s.gens := by rw [← hs1]
  have ed : s1.drawn = s.drawn := by rw [← hs1]
  have eo : s1.os = s.os := by rw [← hs1]
  have kp : ∀ b o, s.heap.get? b = some o → s1.heap.get? b = some o := by rw [← hs1]; exact kp
  have hle : s.toks ≤ s1.toks := by rw [← hs1]; exact hle
  have ta : TkAll s1.toks acc.toList := by rw [← hs1]; exact ta
  have hst : StrsAre acc.toList (l.map fun c => tx [c]) := by
    refine signs_strs l _ (by rw [Array.length_toList, ha.1, hn]) fun j v hj => ?_
    obtain ⟨c, u, hc, e⟩ := ha.2 j v (by simpa using hj)
    exact ⟨c, u, by simpa [tx] using hc, e⟩
  have hvl : acc.toList.length < 64 := by rw [Array.length_toList, ha.1, hn]; exact few
  refine wpAny_bind (wpAny_newList ?_ (by rw [sizeLine_eq]; omega))
  have oL : (s1.heap.push (seqObj "list" acc.toList.toArray 0)).get? s1.heap.objs.size = some (seqObj "list" acc.toList.toArray 0) := Heap.get?_push_size _ rfl
  refine wpAny_bind (wpAny_holding (wpAny_call_entry slot_list_sort ⟨_, oL, rfl⟩ entry_list_sort (list_sort_treeK strKind_oneLt oL hst.keysOf (fun a b r e => keyKind_strs (by rw [← e]; exact hst)) hvl fun st a1 a2 => ⟨_, rfl, ?_⟩) (args_list_sort _)))
  obtain ⟨ss, h1, h2, h3⟩ := sorted_out_str hst a1 a2
  obtain ⟨e, he⟩ := sortedHeap_at (out := (arrOf st).map (·.2)) oL
  refine wpAny_pure ⟨_, rfl, q s1 _ _ ss e kp eg ed eo (fun b o hb => ?_) he hle (ta.sub (perm_out a1)) h1 h2 h3⟩
  rw [sortedHeap_old (Nat.ne_of_lt (Heap.lt_size hb)) (by rw [Heap.size_push]; exact Nat.lt_succ_of_lt (Heap.lt_size hb))]
  exact Heap.get?_push_of_some _ hb
end
section
variable {X : Cx}
def bSortA (ws : List W) (st : List Cell) : R W := match ws with
  | [.str l] => if l.length < 64 then .ok (.loc st.length) (st ++ [.lst ((sortT (l.map fun c => [c])).map W.str)]) else .bad
  | [.loc n] => bSorted [.loc n] st
  | _ => .bad
theorem b_sortA (hc : X.calm = true := by rfl) : CallW X (.builtin "sorted") bSortA := ⟨fun pins s σ H vs us Q I rv ⟨μ, st, ws, S, r, q⟩ => by
  unfold bSortA at q
  split at q
  · rename_i l
    split at q
    · rename_i c
      obtain ⟨y, rfl, ry⟩ := r.one
      have := ry.strE; subst this
      obtain ⟨u, rfl, ru⟩ := vals1 rv
      obtain ⟨t, rfl⟩ := ru
      refine sorted_text I.pos c (I.ok.hd hc) fun s1 g1 out ss e kp eg ed eo k1 gL hle ta hst hp hsr => ?_
      have es : s1 = { s with heap := s1.heap, toks := s1.toks } := by cases s1; cases s; cases eg; cases ed; cases eo; rfl
      generalize s1.heap = g0, s1.toks = tk at es kp k1 gL hle ta ⊢
      subst es
      have I2 : Inv X pins σ H { s with heap := g0, toks := tk } := I.kept2 (d' := s.drawn) fun b o e => kp b o e
      have hfr : H g0.objs.size = none := I2.hok.fresh (Nat.le_refl _)
      have hmap : (ss.map fun z => z.cps.toList).map tx = ss := by
        rw [List.map_map]
        have : (tx ∘ fun z : Str => z.cps.toList) = id := funext fun z => tx_cpsL z
        rw [this, List.map_id]
      have hperm : (ss.map fun z => z.cps.toList).Perm (l.map fun c => [c]) := by
        have e := hp.map fun z : Str => z.cps.toList
        rw [List.map_map] at e
        exact e
      have ez : (ss.map fun z => z.cps.toList) = sortT (l.map fun c => [c]) := upT_one (sortedS_up (by rw [hmap]; exact hsr)) (sortT_up _) (hperm.trans (sortT_perm _).symm)
      have hvals : Vals tk ((sortT (l.map fun c => [c])).map fun l => V.str (tx l)) out.toList := by
        have e := of_strsAre hst ta
        rw [← hmap, ez, List.map_map] at e
        exact e
      refine ⟨.ref g0.objs.size, _, I2.laid (o := .lst ((sortT (l.map fun c => [c])).map fun l => V.str (tx l))) (t' := tk) k1 (Nat.le_refl _) ⟨?_, out.toList, e, hvals, gL⟩, rfl, ?_⟩
      · rw [List.length_map, (sortT_perm _).length_eq, List.length_map]
        exact Nat.le_trans (Nat.le_of_lt c) (by decide)
      · exact q (μ ++ [g0.objs.size]) _ _ (List.prefix_append _ _) (SqT.same (same_new hfr _)) (S.newLst hfr (strs_rel _)) (newLoc S)
    · exact q.elim
  · exact b_sorted.h pins s σ H _ us Q I rv ⟨μ, st, _, S, r, q⟩
  · exact q.elim, fun ws st => by
  unfold bSortA
  split
  · split <;> trivial
  · exact (b_sorted (X := X)).n _ _
  · trivial⟩
end
end L2
set_option Elab.async false
set_option linter.all false
set_option maxRecDepth 100000
set_option maxHeartbeats 4000000
namespace L2
open PySem PySem.Spec PyProof.Rows
section
variable {X : Cx} {a b c tg : Expr} {fs : FA} {p pos : Pos}
end
end L2

set_option Elab.async false
set_option linter.all false
set_option maxRecDepth 100000
set_option maxHeartbeats 4000000
namespace L2
open PySem PySem.Spec PyProof.Rows
section
variable {X : Cx} {elt tg iter : Expr} {ifs : List Expr} {scope : Scope} {pos : Pos} {nm : List Str} {cap : List (Option Nat)} {fi : FI} {f : FG} {t : FT} {el : FE}
end
end L2
set_option Elab.async false
set_option linter.all false
set_option maxRecDepth 100000
set_option maxHeartbeats 4000000
namespace L2
open PySem PySem.Spec PyProof.Rows
section
variable {prog : Program} {w : World} {A : Around} {E : Value → Shared → Prop} {s : Shared}
variable {z P O i j a b : Addr} {n m : Nat} {xs ys : Array Value} {x y u v : Value}
end
end L2

namespace L2
open PySem PySem.Spec PyProof.Rows
open AutoSeq1 (wpAny_loadPart')
section
variable {prog : Program} {w : World} {A : Around} {E : Value → Shared → Prop} {s : Shared}
end
section
variable {X : Cx} {a b : Expr} {fs : FA} {p pos : Pos}
end
end L2

set_option Elab.async false
set_option linter.all false
set_option maxRecDepth 100000
set_option maxHeartbeats 4000000
namespace L2
open PySem PySem.Spec PyProof.Rows
open Builtin.Str (tooLong)
section
variable {prog : Program} {w : World} {A : Around} {E : Value → Shared → Prop} {s : Shared}
end
section
variable {X : Cx}
end
end L2
set_option Elab.async false
set_option linter.all false
set_option maxRecDepth 100000
set_option maxHeartbeats 4000000
namespace L2
open PySem PySem.Spec PyProof.Rows
section
variable {X : Cx}
def ints? : List W → Option (List Int)
  | [] => some []
  | .int z :: ws => (ints? ws).map (z :: ·)
  | _ => none
theorem ints?_ok {K : PySem.W.Frag} {μ : List Addr} {H : Hp} : ∀ {ws : List W} {l : List Int} {vs : List V}, ints? ws = some l → RelWs K μ H ws vs → vs = l.map V.int
  | [], l, vs, h, r => by simp only [ints?] at h; cases h; exact r.nilE
  | w :: ws, l, vs, h, r => by
    obtain ⟨x, xs, rfl, rx, rs⟩ := r.consE
    unfold ints? at h
    split at h
    · rename_i e; cases e
    · rename_i z ws' e
      cases e
      cases e2 : ints? ws with
      | none => rw [e2] at h; cases h
      | some l' => rw [e2] at h; cases h; rw [rx.intE, ints?_ok e2 rs]; rfl
    · cases h
end
end L2
set_option Elab.async false
set_option linter.all false
set_option maxRecDepth 100000
set_option maxHeartbeats 4000000
namespace L2
variable {nk : Nat}
open PySem PySem.Spec PyProof.Rows
section
variable {X : Cx}
end
end L2
namespace L2
variable {nk : Nat}
open PySem PySem.Spec PyProof.Rows
end L2
namespace L2
variable {nk : Nat}
open PySem PySem.Spec PyProof.Rows
abbrev Walk2 := List W × List (Nat × List W)
abbrev FI2 := EnvW → List Cell → R Walk2
section
variable {X : Cx} {elt tg iter : Expr} {ifs : List Expr} {scope : Scope} {pos : Pos} {nm : List Str} {cap : List (Option Nat)} {fi : FI2} {f : FG} {t : FT} {el : FE} {m : Nat}
end
section
variable {X : Cx} {a b : Expr} {fs : FA} {p pos : Pos}
end
end L2
set_option Elab.async false
set_option linter.all false
set_option maxRecDepth 100000
set_option maxHeartbeats 4000000
namespace L2
open PySem PySem.Spec PyProof.Rows
section
variable {X : Cx}
end
end L2
set_option Elab.async false
set_option linter.all false
set_option maxRecDepth 100000
set_option maxHeartbeats 4000000
namespace L2
variable {nk : Nat}
open PySem PySem.Spec PyProof.Rows
/-- the frame's note: held -/
theorem Flies.held {X : Cx} {pins : List (Addr × Obj)} {σ : St} {c : Str} {H : Hp} {e : Value} {s : Shared} {Q : Unit → Shared → Prop} {E : Value → Shared → Prop} {M : Model} {env1 : Env} {outer : List Env} {L : Addr} (f : Flies X pins σ c H e s)
    (hst : X.stack = env1 :: outer) (hf1 : env1.frame = some L) (hfX : X.env.frame = some L) (hA : X.A.frames = some X.stack)
    (h : ∀ x C t B h', e = .ref x → X.mg c = some C → H x = none → Heap.HeldW B X.stack x C (.ref t) L h' → s.heap.UpToSlots h' →
      (∀ b o, s.heap.get? b = some o → (H b ≠ none ∨ ((∃ o0, X.s₀.heap.get? b = some o0) ∧ b ∉ X.fs ∧ b ∉ X.ex) ∨ ((∃ y, X.env.cells.lookup y = some b) ∧ b ∉ frs X.stack) ∨ ∃ p ∈ X.pn ++ pins, p.1 = b) → B.get? b = some o) → Q () { s with heap := h' }) :
    wpAny M X.A (noteFrame e env1) Q E s := by
  obtain ⟨x, C, t, B, rfl, hC, hx, st, nx, ff, tr, cov⟩ := f.ex
  rw [hst] at ff hA
  rcases tr with tr | ⟨oe, vs, he, rfl, _, hd, h1, h0⟩ | ⟨L', hL, tr⟩
  · exact wpAny_looks_onW hA hf1 ⟨st, nx, ff, tr⟩ fun h1 hh u1 => h x C t B h1 rfl hC hx (by rw [hst]; exact hh) u1 cov
  · unfold noteFrame
    simp only [hf1]
    refine wpAny_bind (wpAny_field he hd h1 ?_)
    rw [if_neg (by decide)]
    refine wpAny_entryW hA ff hf1 he st nx hd (Array.getElem?_eq_some_iff.mp h1).1 h0 fun h' hN => ?_
    obtain ⟨k1, k2, k3, k4⟩ := hN
    exact h x _ t B h' rfl hC hx ⟨k1, nx, by rw [hst]; exact k2, k3⟩ k4 cov
  · rw [hfX] at hL
    cases hL
    exact wpAny_noteFrame_againW hf1 tr (h x C t B s.heap rfl hC hx ⟨st, nx, by rw [hst]; exact ff, tr⟩ (Heap.UpToSlots.refl _) cov)
section
variable {X : Cx} {elt tg iter : Expr} {scope : Scope} {pos : Pos} {nm : List Str} {wi : TI} {g : TG} {te : Cx → TE}
end
section
variable {X : Cx} {elt tg iter : Expr} {scope : Scope} {pos : Pos} {nm : List Str} {fi : FI} {f : FG} {el : FE}
end
end L2
set_option Elab.async false
set_option linter.all false
set_option maxRecDepth 100000
set_option maxHeartbeats 4000000
namespace L2
variable {nk : Nat}
open PySem PySem.Spec PyProof.Rows
def DK.w : DK → W
  | .i z => .int z
  | .s l => .str l
def keyOf : W → Option DK
  | .int z => some (.i z)
  | .str l => some (.s l)
  | _ => none
abbrev dV (kvs : List (DK × W)) (vs : List V) : List (Key × V) := (kvs.map fun p => p.1.key).zip vs
section
variable {K : PySem.W.Frag} {μ : List Addr} {H : Hp}
end
theorem DGet.r {H : Hp} {a : Addr} {kvs : List (Key × V)} {k : Key} (e : Rd H a (.dK kvs)) : DGet H a (kV k) (valV kvs k) := .inl ⟨kvs, k, e, rfl, rfl⟩
section
variable {X : Cx} {a b c d e o i : Expr} {es : List Expr} {pos p p2 pos' apos cpos : Pos} {x name : Str} {fa fb fc fe fo fi : FE} {fs : FA} {kk : Nat}
def keysOf : List (W × W) → Option (List (DK × W))
  | [] => some []
  | (k, v) :: r => match keyOf k, keysOf r with
    | some k, some r => some ((k, v) :: r)
    | _, _ => none
end
end L2
set_option Elab.async false
set_option linter.all false
set_option maxRecDepth 100000
set_option maxHeartbeats 4000000
namespace L2
open PySem PySem.Spec PyProof.Rows
end L2
set_option Elab.async false
set_option linter.all false
set_option maxRecDepth 100000
set_option maxHeartbeats 4000000
namespace L2
open PySem PySem.Spec PyProof.Rows
section
variable {X : Cx} {x y : Str} {a b : Expr} {fs : FA} {pos : Pos}
end
end L2
set_option Elab.async false
set_option linter.all false
set_option maxRecDepth 100000
set_option maxHeartbeats 4000000
namespace L2
open PySem PySem.Spec PyProof.Rows
inductive DefIn (K : PySem.W.Frag) (x : Str) (st : Stmt) : Prop
  | mk {ad : Addr} {od an : Option Addr} {sl : Array (Option Value)} {oc kV dc pm cd ct : Value} (a : PySem.W.nsIn K mainGlobals x = some (some (.ref ad)))
      (l : K.lookup ad = some ⟨oc, od, .func (PySem.W.fnOf x x (defArgs st) (defBody st) (defScope st) .none kV dc pm an cd ct), sl⟩) (c : PySem.W.codeIn K cd x = true) (k : PySem.W.keepIn K (.ref ad) = true) : DefIn K x st
theorem DefIn.fn {K : PySem.W.Frag} {x : Str} {st : Stmt} {h : Heap} {mg : Str → Option Value} (d : DefIn K x st) (X : K.In h) (G : h.Ns mainGlobals mg) : ∃ f fd, Fun K x x st f fd ∧ mg x = some (.ref f) := by
  obtain ⟨a, l, c, k⟩ := d
  exact ⟨_, _, fun_mk (st := st) l c k, PySem.W.mg_of X G a⟩
theorem ln0 {n : Nat} {l : List Value} (h : l.length = n + 1) : ∃ a t, l = a :: t ∧ t.length = n := by
  cases l with
  | nil => cases h
  | cons a t => exact ⟨a, t, rfl, Nat.succ.inj h⟩
theorem ln1 {l : List Value} (h : l.length = 1) : ∃ a, l = [a] := List.length_eq_one_iff.mp h
theorem ln2 {l : List Value} (h : l.length = 2) : ∃ a b, l = [a, b] := by obtain ⟨a, t, rfl, k⟩ := ln0 h; obtain ⟨b, rfl⟩ := ln1 k; exact ⟨a, b, rfl⟩
theorem ln3 {l : List Value} (h : l.length = 3) : ∃ a b c, l = [a, b, c] := by obtain ⟨a, t, rfl, k⟩ := ln0 h; obtain ⟨b, c, rfl⟩ := ln2 k; exact ⟨a, b, c, rfl⟩
theorem ln4 {l : List Value} (h : l.length = 4) : ∃ a b c d, l = [a, b, c, d] := by obtain ⟨a, t, rfl, k⟩ := ln0 h; obtain ⟨b, c, d, rfl⟩ := ln3 k; exact ⟨a, b, c, d, rfl⟩
theorem ln5 {l : List Value} (h : l.length = 5) : ∃ a b c d e, l = [a, b, c, d, e] := by obtain ⟨a, t, rfl, k⟩ := ln0 h; obtain ⟨b, c, d, e, rfl⟩ := ln4 k; exact ⟨a, b, c, d, e, rfl⟩
theorem ln6 {l : List Value} (h : l.length = 6) : ∃ a b c d e f, l = [a, b, c, d, e, f] := by obtain ⟨a, t, rfl, k⟩ := ln0 h; obtain ⟨b, c, d, e, f, rfl⟩ := ln5 k; exact ⟨a, b, c, d, e, f, rfl⟩
section
variable {P : Program} {w : World} {K : PySem.W.Frag} {mg : Str → Option Value} {base : Heap} {k n : Nat} {x : Str} {st : Stmt} {f : Addr} {fd : FuncData} {ps : List Str} {G : List W → List Cell → R W}
theorem hasW_q (F : Fun K x x st f fd) (hm : mg x = some (.ref f)) (ok : FnOk P w K mg base (CX1 P w) k f fd ps (spW K mg n G)) (hn : ps.length = n := by rfl)
    (hb : ∀ (kV doc pm : Value) (an : Option Addr) (cdv ct : Value) (us : List Value), us.length = ps.length → bindArgs (PySem.W.fnOf x x (defArgs st) (defBody st) (defScope st) .none kV doc pm an cdv ct) ⟨us, []⟩ = pure (ps.zip us) := by (intro _ _ _ _ _ _ _ q; first | (obtain ⟨_, rfl⟩ := ln1 q; rfl) | (obtain ⟨_, _, rfl⟩ := ln2 q; rfl) | (obtain ⟨_, _, _, rfl⟩ := ln3 q; rfl) | (obtain ⟨_, _, _, _, rfl⟩ := ln4 q; rfl) | (obtain ⟨_, _, _, _, _, rfl⟩ := ln5 q; rfl) | (obtain ⟨_, _, _, _, _, _, rfl⟩ := ln6 q; rfl))) : HasW P w K mg base k x n G := hasW_mk F hm hn hb ok
end
section
variable {X : Cx} {e : Expr} {pos : Pos} {x : Str} {fe : FE} {ps : List Str} {sp scope : Scope}
theorem scQ {N : List Str} (a : sp.kind = .function := by rfl) (b : sp.isCoroutine = false := by rfl) (c : sp.isGenerator = false := by rfl) (d : N.Nodup := by decide +kernel) (f : N.take ps.length = ps := by rfl) (g : ∀ x ∈ ps, sp.names.lookup x = some .local ∨ sp.names.lookup x = some .cell := by decide +kernel) (h : ∀ y ∈ sp.names, y.2 ≠ .free := by decide +kernel) : FnScope N ps sp := ⟨a, b, c, d, f, g, h⟩
theorem sS (i : Nat) {pos' : Pos} (sc : FnScope X.N ps sp) (he : SE X e fe) (hi : X.N[i]? = some x := by rfl) (hx : Loc X.env.scope x := by first | exact .inl rfl | exact .inr rfl) (hs : swapsWith e (some (.Name x pos')) pos.line X.env = pure false := by rfl) (hf : X.fn x = true ∨ X.env.scope.names.lookup x = some .local := by first | exact .inl rfl | exact .inr rfl | assumption) :
    SS X (.Assign [.Name x pos'] e pos) (xSet i fe) := ss_set sc.nd hi hx he hs hf
theorem sG (i : Nat) (sc : FnScope X.N ps sp) (hi : X.N[i]? = some x := by rfl) (hx : Loc X.env.scope x := by first | exact .inl rfl | exact .inr rfl) (hf : X.fn x = true ∨ X.env.scope.names.lookup x = some .local := by first | exact .inl rfl | exact .inr rfl | assumption) : SG X (.Name x pos) (gNm i) := sg_name sc.nd hi hx hf
theorem sC {nm : List Str} {cl : List (Str × Addr)} {C s0 H0 fp} (i : Nat) (hN : nm.Nodup := by decide +kernel) (hi : nm[i]? = some x := by rfl) (hx : Loc (cxComp X nm scope cl C s0 H0 fp).env.scope x := by first | exact .inl rfl | exact .inr rfl) (hf : (cxComp X nm scope cl C s0 H0 fp).fn x = true ∨ (cxComp X nm scope cl C s0 H0 fp).env.scope.names.lookup x = some .local := by first | exact .inl rfl | exact .inr rfl | assumption) :
    SG (cxComp X nm scope cl C s0 H0 fp) (.Name x pos) (gNm i) := sg_name (X := cxComp X nm scope cl C s0 H0 fp) hN hi hx hf
end
section
variable {X : Cx} {elt tg iter : Expr} {ifs : List Expr} {scope : Scope} {pos : Pos} {cap : List (Option Nat)} {fi : FI} {f : FG} {t : FT} {el : FE} {m : Nat}
end
end L2
set_option Elab.async false
set_option linter.all false
set_option maxRecDepth 100000
set_option maxHeartbeats 4000000
namespace L2
open PySem PySem.Spec PyProof.Rows
section
variable {X : Cx}
end
end L2
set_option Elab.async false
set_option linter.all false
set_option maxRecDepth 100000
set_option maxHeartbeats 4000000
namespace L2
open PySem PySem.Spec PyProof.Rows
theorem ints_at {vs : List Value} {ns : List Int} (h : IntsAre vs ns) : ∀ {i : Nat} {v : Value}, vs[i]? = some v → ∃ z t, v = .int z t ∧ ns[i]? = some z ∧ ns.drop i = z :: ns.drop (i + 1) := by
  induction h with
  | nil => intro i v e; simp at e
  | cons n t r ih =>
    intro i v e
    cases i with
    | zero => cases e; exact ⟨n, t, rfl, rfl, rfl⟩
    | succ i => obtain ⟨z, u, e1, e2, e3⟩ := ih (i := i) (v := v) (by simpa using e); exact ⟨z, u, e1, by simpa using e2, by simpa using e3⟩
theorem lts_loop (p q : Addr) (xs ys : Array Value) (n m : Nat) (dp dq : Option Addr) (sp sq : Array (Option Value)) (ns ms : List Int) (hx : IntsAre xs.toList ns) (hy : IntsAre ys.toList ms) (k : Nat) :
    ∀ i : Nat, xs.size - i = k → i ≤ xs.size → i ≤ ys.size → Meets (Builtin.«list.__eq__.loop» ⟨[.ref p, .ref q, rawInt i, rawInt 0], []⟩)
      (fun _ R s => s.heap.get? p = some ⟨.type "list", dp, .seq xs n, sp⟩ ∧ s.heap.get? q = some ⟨.type "list", dq, .seq ys m, sq⟩ ∧ R (.ok (.ret (.bool (HT.lexLt (ns.drop i) (ms.drop i))))) s) := by
  have zx : xs.size = ns.length := by rw [← hx.length]; simp
  have zy : ys.size = ms.length := by rw [← hy.length]; simp
  have stop : ∀ i : Nat, i ≤ xs.size → i ≤ ys.size → (xs[i]? = none ∨ ys[i]? = none) → HT.lexLt (ns.drop i) (ms.drop i) = decide (xs.size < ys.size) := by
    intro i h1 h2 h
    by_cases e : i = xs.size
    · rw [show ns.drop i = [] by rw [List.drop_eq_nil_iff]; omega]
      by_cases e2 : i = ys.size
      · rw [show ms.drop i = [] by rw [List.drop_eq_nil_iff]; omega, decide_eq_false (by omega)]; rfl
      · cases hd : ms.drop i with
        | nil => rw [List.drop_eq_nil_iff] at hd; omega
        | cons a r => rw [decide_eq_true (by omega)]; rfl
    · have e2 : i = ys.size := by
        rcases h with h | h
        · rw [Array.getElem?_eq_none_iff] at h; omega
        · rw [Array.getElem?_eq_none_iff] at h; omega
      rw [show ms.drop i = [] by rw [List.drop_eq_nil_iff]; omega, decide_eq_false (by omega)]
      cases ns.drop i <;> rfl
  induction k with
  | zero =>
    intro i hk h1 h2 prog w A R s h
    obtain ⟨hp, g, d, tk, os⟩ := s; obtain ⟨ha, hb, h⟩ := h
    wp_walk using wpAny_loadPart' ha, wpAny_loadPart' hb
    have n1 : xs[((i : Nat) : Int).toNat]? = none := by simp; omega
    rw [stop i h1 h2 (.inl (by simpa using n1))] at h
    rw [n1]
    wp_walk using wpAny_loadPart' ha, wpAny_loadPart' hb
    exact h
  | succ k ih =>
    intro i hk h1 h2 prog w A R s h
    obtain ⟨hp, g, d, tk, os⟩ := s; obtain ⟨ha, hb, h⟩ := h
    wp_walk using wpAny_loadPart' ha, wpAny_loadPart' hb
    have lx : i < xs.size := by omega
    have n1 : xs[((i : Nat) : Int).toNat]? = some xs[i] := by simp [lx]
    by_cases ly : i < ys.size
    · have n2 : ys[((i : Nat) : Int).toNat]? = some ys[i] := by simp [ly]
      obtain ⟨z, t, e1, f1, g1⟩ := ints_at hx (i := i) (v := xs[i]) (by simp [lx])
      obtain ⟨z2, t2, e2, f2, g2⟩ := ints_at hy (i := i) (v := ys[i]) (by simp [ly])
      rw [g1, g2] at h
      rw [n1, n2]
      refine wpAny_bind ?_
      rw [e1, e2]
      refine wpAny_eqBool_int ?_
      have hc : ((i : Int) + 1) = ((i + 1 : Nat) : Int) := by push_cast; rfl
      by_cases hz : z = z2
      · subst hz
        rw [show (z == z) = true from by simp]
        have h' : R (.ok (.ret (.bool (HT.lexLt (ns.drop (i + 1)) (ms.drop (i + 1)))))) ⟨hp, g, d, tk, os⟩ := by
          have : HT.lexLt (z :: ns.drop (i + 1)) (z :: ms.drop (i + 1)) = HT.lexLt (ns.drop (i + 1)) (ms.drop (i + 1)) := by
            simp [HT.lexLt]
          rw [this] at h; exact h
        wp_walk
        rw [hc]
        exact ⟨plainId_quiet PySem.MeetsSeq3.plain_eq_loop _, codeAny_builtin PySem.MeetsSeq3.entry_eq_loop (by
          rw [Around.under_plainId PySem.MeetsSeq3.plain_eq_loop _]
          exact ih (i + 1) (by omega) (by omega) (by omega) prog w A R _ ⟨ha, hb, h'⟩)⟩
      · rw [show (z == z2) = false from by simp [hz]]
        wp_walk using wpAny_loadPart' ha, wpAny_loadPart' hb
        rw [n1, n2, e1, e2]
        rw [HT.lexLt_cons, if_neg hz] at h
        show wpAny _ _ (richCompare .Lt (.int z t) (.int z2 t2) >>= fun v => ret v) _ _ _
        exact wpAny_bind (show wpAny _ _ (compareOp .Lt (.int z t) (.int z2 t2)) _ _ _ from lt_int (wpAny_pure h))
    · have n2 : ys[((i : Nat) : Int).toNat]? = none := by simp; omega
      rw [stop i h1 h2 (.inr (by simpa using n2))] at h
      rw [n1, n2]
      wp_walk using wpAny_loadPart' ha, wpAny_loadPart' hb
      exact h
theorem lts_meets (p q : Addr) (xs ys : Array Value) (n m : Nat) (dp dq : Option Addr) (sp sq : Array (Option Value)) (ns ms : List Int) (hx : IntsAre xs.toList ns) (hy : IntsAre ys.toList ms) :
    Meets (Builtin.«list.__lt__» ⟨[.ref p, .ref q], []⟩)
      (fun _ R s => s.heap.get? p = some ⟨.type "list", dp, .seq xs n, sp⟩ ∧ s.heap.get? q = some ⟨.type "list", dq, .seq ys m, sq⟩ ∧ R (.ok (.ret (.bool (HT.lexLt ns ms)))) s) := by
  intro prog w A R s h
  obtain ⟨hp, g, d, tk, os⟩ := s; obtain ⟨ha, hb, h⟩ := h
  have f3 := AutoSeq1.sub_list_list
  wp_walk using wpAny_loadPart' ha, wpAny_loadPart' hb
  exact ⟨plainId_quiet PySem.MeetsSeq3.plain_eq_loop _, codeAny_builtin PySem.MeetsSeq3.entry_eq_loop (by
    rw [Around.under_plainId PySem.MeetsSeq3.plain_eq_loop _]
    exact lts_loop p q xs ys n m dp dq sp sq ns ms hx hy _ 0 rfl (Nat.zero_le _) (Nat.zero_le _) prog w A R _ ⟨ha, hb, by simpa using h⟩)⟩
def wLtL (x y : W) (st : List Cell) : R W := match x, y with
  | .loc n, .loc m => ofO (lstOf st n) fun a => ofO (lstOf st m) fun b => ofO (ints? a) fun i => ofO (ints? b) fun j => .ok (.bl (HT.lexLt i j)) st
  | _, _ => .bad
section
variable {X : Cx} {kk : Nat}
theorem ilist_of {pins : List (Addr × Obj)} {σ : St} {H : Hp} {s : Shared} {μ : List Addr} {st : List Cell} {n : Nat} {zs : List W} {l : List Int} {x : V} {v : Value} (I : Inv X pins σ H s) (S : StR X.K X.mg μ st H) (h : lstOf st n = some zs) (h2 : ints? zs = some l) (r : RelW X.K μ H (.loc n) x) (rv : RelV s.toks x v) :
    ∃ (a : Addr) (its : List Value), v = .ref a ∧ PlainL s.heap a its.toArray ∧ IntsAre its l := by
  obtain ⟨a, vs, g, hS, rz⟩ := S.lstOf h
  obtain ⟨b1, f1, rfl⟩ := r.locE
  rw [g] at f1; cases f1
  have ev := ints?_ok h2 rz
  subst ev
  cases rv
  obtain ⟨its, rv', pl, hz⟩ := I.list hS
  exact ⟨a, its, rfl, pl, intsAre_of (by simpa using rv')⟩
theorem w_ltL (hr : Room kk X.A) : OpW X (compareOp .Lt) wLtL := ⟨fun pins s σ H x y v u Q I rv ru ⟨μ, st, wx, wy, S, rx, ry, q⟩ => by
  unfold wLtL at q
  split at q
  · rename_i n m
    cases e1 : lstOf st n with
    | none => rw [e1] at q; exact q.elim
    | some a =>
      rw [e1, ofO_some] at q
      cases e2 : lstOf st m with
      | none => rw [e2] at q; exact q.elim
      | some b =>
        rw [e2, ofO_some] at q
        cases e3 : ints? a with
        | none => rw [e3] at q; exact q.elim
        | some i =>
          rw [e3, ofO_some] at q
          cases e4 : ints? b with
          | none => rw [e4] at q; exact q.elim
          | some j =>
            rw [e4, ofO_some] at q
            obtain ⟨p, its, rfl, ⟨⟨c1, d1, t1, s1⟩, n1, l1, k1, z1, u1⟩, i1⟩ := ilist_of I S e1 e3 rx rv
            obtain ⟨p', its', rfl, ⟨⟨c2, d2, t2, s2⟩, n2, l2, k2, z2, u2⟩, i2⟩ := ilist_of I S e2 e4 ry ru
            simp only at k1 z1 u1 k2 z2 u2
            subst k1 z1 u1 k2 z2 u2
            exact richCompare_meets_room (op := .Lt) ⟨_, l1, rfl⟩ ⟨_, l2, rfl⟩ PySem.F.slot_list_lt PySem.F.entry_list_lt (PySem.F.args_list_lt_2 _ _) (lts_meets p p' _ _ _ _ _ _ _ _ i j (by simpa using i1) (by simpa using i2))
              ⟨l1, l2, show Value.bool (HT.lexLt i j) ≠ Value.notImplemented ∧ EP X pins σ Q (.bool (HT.lexLt i j)) s from ⟨(fun x => nomatch x), ⟨.bl _, H, I, rfl, okW_bl S q⟩⟩⟩ (by have := hr.units; omega)
  · exact q.elim, fun x y st => by
  unfold wLtL
  split
  · exact ofO_n fun _ => ofO_n fun _ => ofO_n fun _ => ofO_n fun _ => trivial
  · trivial⟩
theorem o_ltL {st : List Cell} {n m : Nat} {i j : List Int} (h1 : lstOf st n = some (i.map W.int)) (h2 : lstOf st m = some (j.map W.int)) : wLtL (.loc n) (.loc m) st = .ok (.bl (HT.lexLt i j)) st := by
  have ii : ∀ l : List Int, ints? (l.map W.int) = some l := fun l => by
    induction l with
    | nil => rfl
    | cons a r ih => simp only [List.map_cons, ints?, ih]; rfl
  unfold wLtL
  simp only [h1, h2, ofO_some, ii]
end
end L2
set_option Elab.async false
set_option linter.all false
set_option maxRecDepth 100000
set_option maxHeartbeats 4000000
namespace L2
open PySem PySem.Spec PyProof.Rows
theorem cell_at (st x : List Cell) (k : Nat) : (st ++ x)[st.length + k]? = x[k]? := by rw [List.getElem?_append_right (by omega)]; congr 1; omega
theorem cell_at0 (st x : List Cell) : (st ++ x)[st.length]? = x[0]? := cell_at st x 0
theorem cell_set (st x : List Cell) (k : Nat) (c : Cell) : (st ++ x).set (st.length + k) c = st ++ x.set k c := by rw [List.set_append_right _ _ (by omega)]; congr 2; omega
theorem cell_set0 (st x : List Cell) (c : Cell) : (st ++ x).set st.length c = st ++ x.set 0 c := cell_set st x 0 c
theorem cell_old {st x : List Cell} {n : Nat} {c : Cell} (h : st[n]? = some c) : (st ++ x)[n]? = some c := by
  rw [List.getElem?_append_left (List.getElem?_eq_some_iff.mp h).1]; exact h
theorem trunc_self (st : List Cell) (ws : List W) : trunc st st ws = st := by unfold trunc; split <;> simp
theorem trunc_app {st x : List Cell} {ws : List W} (h : undWs st.length ws = true) : trunc st (st ++ x) ws = st := by
  unfold trunc
  rw [if_pos ⟨h, by simp, fun i hi => .inl (List.getElem?_append_left hi)⟩]
  simp
theorem trunc_new {st st' : List Cell} {ws : List W} (h : undWs st.length ws = false) : trunc st st' ws = st' := by
  unfold trunc
  rw [if_neg fun k => by have := k.1; rw [h] at this; cases this]
theorem runF_rt {N : Nat} {body : FS} {ws : List W} {st st' : List Cell} {w : W} (h : body (ws.map some ++ List.replicate (N - ws.length) none) st = .rt w st') : runF N body ws st = .ok w (trunc st st' [w]) := by
  unfold runF; rw [h]
theorem runF_self {N : Nat} {body : FS} {ws : List W} {st : List Cell} {w : W} (h : body (ws.map some ++ List.replicate (N - ws.length) none) st = .rt w st) : runF N body ws st = .ok w st := by
  rw [runF_rt h, trunc_self]
theorem runF_app {N : Nat} {body : FS} {ws : List W} {st x : List Cell} {w : W} (h : body (ws.map some ++ List.replicate (N - ws.length) none) st = .rt w (st ++ x)) (hu : undWs st.length [w] = true) : runF N body ws st = .ok w st := by
  rw [runF_rt h, trunc_app hu]
theorem runF_new {N : Nat} {body : FS} {ws : List W} {st x : List Cell} {k : Nat} (h : body (ws.map some ++ List.replicate (N - ws.length) none) st = .rt (.loc (st.length + k)) (st ++ x)) : runF N body ws st = .ok (.loc (st.length + k)) (st ++ x) := by
  rw [runF_rt h, trunc_new (by simp [undWs, W.und])]
theorem seq_nx {g g' : FS} {ρ ρ' : EnvW} {st st' : List Cell} (h : g ρ st = .nx ρ' st') : xSeq g g' ρ st = g' ρ' st' := by unfold xSeq; rw [h]
theorem xFor_nx {fi : FI} {f : FG} {body : FS} {ρ : EnvW} {st st' : List Cell} {k : Walk} (h : fi ρ st = .ok k st') : xFor fi f body ρ st = forW f body k.2 k.1 ρ st' := by unfold xFor; rw [h]; rfl
theorem forW_inv {f : FG} {body : FS} {ck : Option (Nat × List W)} (I : Nat → EnvW → List Cell → Prop) : ∀ {ws : List W} {ρ : EnvW} {st : List Cell} (i0 : Nat), I i0 ρ st → (∀ i ρ st, I i ρ st → chkOk st ck) →
    (∀ i w ρ st, ws[i]? = some w → I (i0 + i) ρ st → ∃ ρ' ρ2 st2, f w ρ = some ρ' ∧ body ρ' st = .nx ρ2 st2 ∧ I (i0 + i + 1) ρ2 st2) →
    ∃ ρ2 st2, forW f body ck ws ρ st = .nx ρ2 st2 ∧ I (i0 + ws.length) ρ2 st2
  | [], ρ, st, i0, h0, hc, hs => ⟨ρ, st, by unfold forW; rw [if_pos (hc _ _ _ h0)], h0⟩
  | w :: ws, ρ, st, i0, h0, hc, hs => by
    obtain ⟨ρ', ρ2, st2, e1, e2, h1⟩ := hs 0 w ρ st rfl h0
    obtain ⟨ρ3, st3, e3, h3⟩ := forW_inv I (ws := ws) (ρ := ρ2) (st := st2) (i0 + 1) h1 hc fun i w ρ st hw hI => by
      obtain ⟨a, b, c, d, e, g⟩ := hs (i + 1) w ρ st (by simpa using hw) (by rw [show i0 + (i + 1) = i0 + 1 + i by omega]; exact hI)
      exact ⟨a, b, c, d, e, by rw [show i0 + 1 + i + 1 = i0 + (i + 1) + 1 by omega]; exact g⟩
    refine ⟨ρ3, st3, ?_, by rw [List.length_cons, show i0 + (ws.length + 1) = i0 + 1 + ws.length by omega]; exact h3⟩
    unfold forW
    rw [if_pos (hc _ _ _ h0), e1]
    simp only [e2]
    exact e3
theorem while_inv {t : FT} {g : FS} (I : Nat → EnvW → List Cell → Prop) : ∀ (n : Nat) {ρ : EnvW} {st : List Cell}, I n ρ st →
    (∀ n ρ st, I n ρ st → t ρ st = .ok false st ∨ (t ρ st = .ok true st ∧ ∃ ρ2 st2 m, g ρ st = .nx ρ2 st2 ∧ m < n ∧ I m ρ2 st2)) →
    ∃ m ρ2 st2, xWhile t g ρ st = .nx ρ2 st2 ∧ I m ρ2 st2 ∧ t ρ2 st2 = .ok false st2 := by
  intro n ρ st h hs
  have key : ∀ (k n : Nat) (ρ : EnvW) (st : List Cell), n < k → I n ρ st → ∃ m ρ2 st2, whileW t g k ρ st = .nx ρ2 st2 ∧ I m ρ2 st2 ∧ t ρ2 st2 = .ok false st2 := by
    intro k
    induction k with
    | zero => intro n _ _ h; exact absurd h (Nat.not_lt_zero _)
    | succ k ih =>
      intro n ρ st hk hI
      rcases hs n ρ st hI with e | ⟨e, ρ2, st2, m, e2, hm, h2⟩
      · exact ⟨n, ρ, st, by unfold whileW; rw [e]; rfl, hI, e⟩
      · obtain ⟨m', ρ3, st3, e3, h3⟩ := ih m ρ2 st2 (by omega) h2
        exact ⟨m', ρ3, st3, by unfold whileW; rw [e]; simp only [R.stmt_ok, if_true, e2]; exact e3, h3⟩
  obtain ⟨m, ρ2, st2, e, h2⟩ := key (n + 1) n ρ st (Nat.lt_succ_self n) h
  exact ⟨m, ρ2, st2, xWhile_eq e (by simp), h2⟩
section
variable {ρ ρ' : EnvW} {st st1 st2 st3 st4 : List Cell} {fa fb fe fo fi : FE} {fs : FA} {t u : FT} {x y z w v : W} {ws xs zs : List W} {i j n m : Nat} {a b k : Bool} {g g' : FS}
theorem k_var (h : ρ[i]? = some (some w)) : eVar i ρ st = .ok w st := by unfold eVar; rw [h]
theorem k_C : eC w ρ st = .ok w st := rfl
theorem k_2 {f : W → W → List Cell → R W} (h1 : fa ρ st = .ok x st1) (h2 : fb ρ st1 = .ok y st2) (h3 : f x y st2 = .ok z st3) : e2 f fa fb ρ st = .ok z st3 := by unfold e2; rw [h1]; simp only [R.bind_ok]; rw [h2]; exact h3
theorem k_nil : aNil ρ st = .ok [] st := rfl
theorem k_cons (h1 : fa ρ st = .ok x st1) (h2 : fs ρ st1 = .ok xs st2) : aCons fa fs ρ st = .ok (x :: xs) st2 := by unfold aCons; rw [h1]; simp only [R.bind_ok]; rw [h2]; rfl
theorem k_strs {ls : List (List Nat)} : wStrs ls ρ st = .ok (ls.map W.str) st := rfl
theorem k_tup (h1 : fs ρ st = .ok ws st1) (h2 : ws.length ≤ LIM) : eTup fs ρ st = .ok (.tup ws) st1 := by unfold eTup; rw [h1]; simp only [R.bind_ok, mkTup]; rw [if_pos h2]
theorem k_lst (h1 : fs ρ st = .ok ws st1) (h2 : ws.length ≤ LIM) : eLst fs ρ st = .ok (.loc st1.length) (st1 ++ [.lst ws]) := by unfold eLst; rw [h1]; simp only [R.bind_ok, mkLst]; rw [if_pos h2]
theorem k_call {F : List W → List Cell → R W} (h1 : fs ρ st = .ok ws st1) (h2 : F ws st1 = .ok w st2) : eCall F fs ρ st = .ok w st2 := by unfold eCall; rw [h1]; exact h2
theorem k_def {F : List W → List Cell → R W} (h1 : fs ρ st = .ok ws st1) (h2 : F ws st1 = .ok w st2) (hn : ws.length = n) : eDef n F fs ρ st = .ok w st2 := by unfold eDef; rw [h1]; simp only [R.bind_ok]; rw [if_pos hn]; exact h2
theorem k_asB (h : fa ρ st = .ok (.bl k) st1) : asB fa ρ st = .ok k st1 := by unfold asB; rw [h]; rfl
theorem k_bnd_t (h1 : t ρ st = .ok true st1) (h2 : u ρ st1 = .ok k st2) : bnd t u ρ st = .ok k st2 := by unfold bnd; rw [h1]; exact h2
theorem k_bnd_f (h1 : t ρ st = .ok false st1) : bnd t u ρ st = .ok false st1 := by unfold bnd; rw [h1]; rfl
theorem k_bor_f (h1 : t ρ st = .ok false st1) (h2 : u ρ st1 = .ok k st2) : bor t u ρ st = .ok k st2 := by unfold bor; rw [h1]; exact h2
theorem k_bor_t (h1 : t ρ st = .ok true st1) : bor t u ρ st = .ok true st1 := by unfold bor; rw [h1]; rfl
theorem k_bnt (h1 : t ρ st = .ok a st1) (h2 : (!a) = k) : bnt t ρ st = .ok k st1 := by unfold bnt; rw [h1, ← h2]; rfl
theorem k_and_t (h1 : fa ρ st = .ok (.bl true) st1) (h2 : fb ρ st1 = .ok w st2) : eAnd fa fb ρ st = .ok w st2 := by unfold eAnd; rw [h1]; exact h2
theorem k_not (h1 : fa ρ st = .ok (.bl a) st1) (h2 : (!a) = k) : eNot fa ρ st = .ok (.bl k) st1 := by unfold eNot; rw [h1, ← h2]; rfl
theorem k_if1 (h1 : t ρ st = .ok true st1) (h2 : fa ρ st1 = .ok w st2) : eIf t fa fb ρ st = .ok w st2 := by unfold eIf; rw [h1]; exact h2
theorem k_if2 (h1 : t ρ st = .ok false st1) (h2 : fb ρ st1 = .ok w st2) : eIf t fa fb ρ st = .ok w st2 := by unfold eIf; rw [h1]; exact h2
theorem k_ml {F : W → List W → List Cell → R W} (h1 : fo ρ st = .ok x st1) (hl : isLst st1 x = true) (h2 : fs ρ st1 = .ok ws st2) (h3 : F x ws st2 = .ok w st3) : eML F fo fs ρ st = .ok w st3 := by unfold eML; rw [h1]; simp only [R.bind_ok]; rw [if_pos hl, h2]; exact h3
theorem k_ms {F : W → List W → List Cell → R W} (h1 : fo ρ st = .ok x st1) (hl : isStr x = true) (h2 : fs ρ st1 = .ok ws st2) (h3 : F x ws st2 = .ok w st3) : eMS F fo fs ρ st = .ok w st3 := by unfold eMS; rw [h1]; simp only [R.bind_ok]; rw [if_pos hl, h2]; exact h3
theorem k_isLst (h : st[n]? = some (.lst ws)) : isLst st (.loc n) = true := by simp only [isLst, h]
theorem k_neg {q : Int} (h : fa ρ st = .ok (.int q) st1) : eNeg fa ρ st = .ok (.int (-q)) st1 := by unfold eNeg; rw [h]; rfl
theorem k_isT {T c : String} (h : fa ρ st = .ok x st1) (hx : x.ty = some c) (hk : isiT c T = k) : eIsT T fa ρ st = .ok (.bl k) st1 := by unfold eIsT; rw [h]; simp only [R.bind_ok, hx, hk]
theorem k_isN (h : fa ρ st = .ok x st1) (hk : x.isNon = k) : eIsN fa ρ st = .ok (.bl k) st1 := by unfold eIsN; rw [h, ← hk]; rfl
theorem k_notN (h : fa ρ st = .ok x st1) (hk : (!x.isNon) = k) : eNotN fa ρ st = .ok (.bl k) st1 := by unfold eNotN; rw [h, ← hk]; rfl
theorem k_oN : oNone ρ st = .ok none st := rfl
theorem k_oS {q : Int} (h : fa ρ st = .ok (.int q) st1) : oSome fa ρ st = .ok (some q) st1 := by unfold oSome; rw [h]; rfl
theorem k_sl {fl fh : FO} {l h : Option Int} (h1 : fa ρ st = .ok x st1) (h2 : fl ρ st1 = .ok l st2) (h3 : fh ρ st2 = .ok h st3) (h4 : wSl x l h st3 = .ok w st4) : eSl fa fl fh ρ st = .ok w st4 := by unfold eSl; rw [h1]; simp only [R.bind_ok]; rw [h2]; simp only [R.bind_ok]; rw [h3]; exact h4
theorem k_set (h : fe ρ st = .ok w st1) : xSet i fe ρ st = .nx (ρ.set i (some w)) st1 := by unfold xSet; rw [h]; rfl
theorem k_expr (h : fe ρ st = .ok w st1) : xExpr fe ρ st = .nx ρ st1 := by unfold xExpr; rw [h]; rfl
theorem k_ret (h : fe ρ st = .ok w st1) : xRet fe ρ st = .rt w st1 := by unfold xRet; rw [h]; rfl
theorem k_put {f : W → W → W → List Cell → Option (List Cell)} (h1 : fe ρ st = .ok v st1) (h2 : fo ρ st1 = .ok x st2) (h3 : fi ρ st2 = .ok y st3) (h4 : f x y v st3 = some st4) : xPut fo fi fe f ρ st = .nx ρ st4 := by
  unfold xPut; rw [h1]; simp only [R.stmt_ok]; rw [h2]; simp only [R.stmt_ok]; rw [h3]; simp only [R.stmt_ok]; rw [h4]
theorem k_if_t {r : RS} (h1 : t ρ st = .ok true st1) (h2 : g ρ st1 = r) : xIf t g g' ρ st = r := by unfold xIf; rw [h1]; exact h2
theorem k_if_f {r : RS} (h1 : t ρ st = .ok false st1) (h2 : g' ρ st1 = r) : xIf t g g' ρ st = r := by unfold xIf; rw [h1]; exact h2
theorem k_next : xNext ρ st = .nx ρ st := rfl
theorem k_seq {r : RS} (h : g ρ st = .nx ρ' st1) (h2 : g' ρ' st1 = r) : xSeq g g' ρ st = r := by rw [seq_nx h]; exact h2
theorem k_seqR (h : g ρ st = .rt w st1) : xSeq g g' ρ st = .rt w st1 := by unfold xSeq; rw [h]
theorem o_addI {p q : Int} : wAdd (.int p) (.int q) st = .ok (.int (p + q)) st := rfl
theorem o_addS {p q : List Nat} (h : p.length + q.length ≤ LIM) : wAdd (.str p) (.str q) st = .ok (.str (p ++ q)) st := by simp only [wAdd]; rw [if_pos h]
theorem o_addL (h1 : st[n]? = some (.lst ws)) (h2 : st[m]? = some (.lst xs)) (h : (ws ++ xs).length ≤ LIM) : wAdd (.loc n) (.loc m) st = .ok (.loc st.length) (st ++ [.lst (ws ++ xs)]) := by
  unfold wAdd; simp only [h1, h2, mkLst]; rw [if_pos h]
theorem o_II {C : Int → Int → Prop} [∀ i j, Decidable (C i j)] {f : Int → Int → Int} {p q : Int} (h : C p q) : wII C f (.int p) (.int q) st = .ok (.int (f p q)) st := by simp only [wII]; rw [if_pos h]
theorem o_mulI {p q : Int} (h : cMul p q) : wMulA (.int p) (.int q) st = .ok (.int (p * q)) st := by simp only [wMulA]; rw [if_pos h]
theorem o_cmp {f : Int → Int → Bool} {p q : Int} (h : f p q = k) : wCmp f (.int p) (.int q) st = .ok (.bl k) st := by rw [← h]; rfl
theorem o_leI {p q : Int} (h : decide (p ≤ q) = k) : wLeD (.int p) (.int q) st = .ok (.bl k) st := by rw [← h]; rfl
theorem o_eqI {p q : Int} (h : (p == q) = k) : wEq (.int p) (.int q) st = .ok (.bl k) st := by rw [← h]; rfl
theorem o_neI {p q : Int} (h : (!(p == q)) = k) : wNe (.int p) (.int q) st = .ok (.bl k) st := by rw [← h]; rfl
theorem o_eqS {p q : List Nat} (h : (p == q) = k) : wEq (.str p) (.str q) st = .ok (.bl k) st := by rw [← h]; rfl
theorem o_ixT {q : Int} (h : atI ws q = some w) : wIx (.tup ws) (.int q) st = .ok w st := by unfold wIx; simp only [h, ofO_some]
theorem kv (h : ρ[i]? = some (some w) := by rfl) : eVar i ρ st = .ok w st := k_var h
theorem kn (h : ρ[i]? = some (some w) := by rfl) : aCons (eVar i) aNil ρ st = .ok [w] st := k_cons (k_var h) k_nil
theorem o_ixS {l : List Nat} {q : Int} {c : Nat} (hl : l.length ≤ LIM) (h : atI l q = some c) : wIx (.str l) (.int q) st = .ok (.str [c]) st := by unfold wIx; simp only [h, ofO_some]; rw [if_pos hl]
theorem o_ixL {q : Int} (hl : lstOf st n = some ws) (h : atI ws q = some w) : wIx (.loc n) (.int q) st = .ok w st := by unfold wIx; simp only [hl, h, ofO_some]
theorem o_lenT : bLen [.tup ws] st = .ok (.int ws.length) st := rfl
theorem o_lenS {l : List Nat} (h : l.length ≤ LIM) : bLen [.str l] st = .ok (.int l.length) st := by unfold bLen; simp only; rw [if_pos h]
theorem o_lenL (hl : lstOf st n = some ws) : bLen [.loc n] st = .ok (.int ws.length) st := by unfold bLen; simp only [hl, ofO_some]
theorem lstOf_l (h : st[n]? = some (.lst ws)) : lstOf st n = some ws := by unfold lstOf; rw [h]
theorem lstOf_r (h : st[n]? = some (.ro ws)) : lstOf st n = some ws := by unfold lstOf; rw [h]
theorem o_app (h : st[n]? = some (.lst ws)) (hl : ws.length < LIM) : mAppend (.loc n) [y] st = .ok .non (st.set n (.lst (ws ++ [y]))) := by unfold mAppend; simp only [h]; rw [if_pos hl]
theorem o_pop (h : st[n]? = some (.lst (ws ++ [y]))) : mPop (.loc n) [] st = .ok y (st.set n (.lst ws)) := by unfold mPop; simp only [h]; simp
theorem o_join {sep : List Nat} {ls : List (List Nat)} (h : lstOf st n = some (ls.map W.str)) (hl : (ls.map List.length).sum + ls.length * sep.length ≤ LIM) : mJoin (.str sep) [.loc n] st = .ok (.str (joinN sep ls)) st := by
  unfold mJoin; simp only [h, ofO_some, strs?_map]; rw [if_pos hl]
theorem o_slS {l h : Option Int} {z : List Nat} (hl : z.length ≤ LIM) : wSl (.str z) l h st = .ok (.str (cutW z l h)) st := by unfold wSl; simp only; rw [if_pos hl]
theorem o_slT {l h : Option Int} : wSl (.tup ws) l h st = .ok (.tup (cutW ws l h)) st := rfl
theorem i_any_t (h : fe ρ st = .ok (.tup ws) st1) : itAny fe ρ st = .ok (ws, none) st1 := by unfold itAny; rw [h]; rfl
theorem i_any_l (h : fe ρ st = .ok (.loc n) st1) (hl : lstOf st1 n = some ws) : itAny fe ρ st = .ok (ws, some (n, ws)) st1 := by unfold itAny; rw [h]; simp only [R.bind_ok, hl]
theorem i_range1 {q : Int} (h : fs ρ st = .ok [.int q] st1) (hq : -(2 ^ 62) ≤ q ∧ q < 2 ^ 62) : itRange1 fs ρ st = .ok (rangeW 0 q.toNat, none) st1 := by unfold itRange1; rw [h]; simp only [R.bind_ok]; rw [if_pos hq]
theorem at_neg {l : List W} {q : Nat} {x : W} (h : l.reverse[q]? = some x) : atI l (-((q : Int) + 1)) = some x := by
  have hq : q < l.length := by have := (List.getElem?_eq_some_iff.mp h).1; simpa using this
  unfold atI ixN
  rw [if_neg (by omega), if_pos (by omega)]
  rw [List.getElem?_reverse hq] at h
  simp only [Option.bind_some]
  rw [show ((-((q : Int) + 1)) + (l.length : Int)).toNat = l.length - 1 - q by omega]
  exact h
theorem at_nat {α : Type} {l : List α} {q : Nat} {x : α} (h : l[q]? = some x) : atI l (q : Int) = some x := by
  have hq : q < l.length := (List.getElem?_eq_some_iff.mp h).1
  unfold atI ixN
  rw [if_pos (by omega), if_pos (by omega)]
  simpa using h
def Sat (P : RS → Prop) (r : RS) : Prop := P r
def nxP (I : EnvW → List Cell → Prop) : RS → Prop := fun r => ∃ ρ st, r = .nx ρ st ∧ I ρ st
def rtP (I : W → List Cell → Prop) : RS → Prop := fun r => ∃ w st, r = .rt w st ∧ I w st
variable {P : RS → Prop} {rest : FS}
theorem sat_eq {r r' : RS} (h : r = r') (h2 : P r') : Sat P r := by rw [h]; exact h2
theorem sat_seq (h : g ρ st = .nx ρ' st1) (h2 : Sat P (g' ρ' st1)) : Sat P (xSeq g g' ρ st) := by rw [seq_nx h]; exact h2
theorem sat_t (h1 : t ρ st = .ok true st1) (h2 : Sat P (g ρ st1)) : Sat P (xIf t g g' ρ st) := by rw [k_if_t h1 rfl]; exact h2
theorem sat_f (h1 : t ρ st = .ok false st1) (h2 : Sat P (g' ρ st1)) : Sat P (xIf t g g' ρ st) := by rw [k_if_f h1 rfl]; exact h2
theorem sat_seq_t (h1 : t ρ st = .ok true st1) (h2 : Sat P (xSeq g rest ρ st1)) : Sat P (xSeq (xIf t g g') rest ρ st) := by
  unfold xSeq at h2 ⊢; rw [k_if_t h1 rfl]; exact h2
theorem sat_seq_f (h1 : t ρ st = .ok false st1) (h2 : Sat P (xSeq g' rest ρ st1)) : Sat P (xSeq (xIf t g g') rest ρ st) := by
  unfold xSeq at h2 ⊢; rw [k_if_f h1 rfl]; exact h2
theorem sat_assoc {h : FS} (h2 : Sat P (xSeq g (xSeq g' h) ρ st)) : Sat P (xSeq (xSeq g g') h ρ st) := by
  unfold xSeq at h2 ⊢
  cases e : g ρ st <;> simp only [e] at h2 ⊢ <;> exact h2
theorem sat_next (h2 : Sat P (rest ρ st)) : Sat P (xSeq xNext rest ρ st) := h2
theorem sat_ret (h : fe ρ st = .ok w st1) (h2 : P (.rt w st1)) : Sat P (xRet fe ρ st) := by rw [k_ret h]; exact h2
theorem sat_seq_ret (h : fe ρ st = .ok w st1) (h2 : P (.rt w st1)) : Sat P (xSeq (xRet fe) rest ρ st) := by rw [k_seqR (k_ret h)]; exact h2
theorem sat_for {fi : FI} {f : FG} {body : FS} {k : Walk} (I : Nat → EnvW → List Cell → Prop) (h : fi ρ st = .ok k st1) (h0 : I 0 ρ st1) (hc : ∀ i ρ st, I i ρ st → chkOk st k.2)
    (hs : ∀ i w ρ st, k.1[i]? = some w → I i ρ st → ∃ ρ', f w ρ = some ρ' ∧ Sat (nxP (I (i + 1))) (body ρ' st)) (he : ∀ ρ st, I k.1.length ρ st → Sat P (rest ρ st)) : Sat P (xSeq (xFor fi f body) rest ρ st) := by
  obtain ⟨ρ2, st2, e, h2⟩ := forW_inv (f := f) (body := body) (ck := k.2) I (ws := k.1) (ρ := ρ) (st := st1) 0 h0 hc fun i w ρ st hw hI => by
    rw [Nat.zero_add] at hI ⊢
    obtain ⟨ρ', e1, ρ2, st2, e2, h2⟩ := hs i w ρ st hw hI
    exact ⟨ρ', ρ2, st2, e1, e2, h2⟩
  rw [Nat.zero_add] at h2
  exact sat_seq (by rw [xFor_nx h]; exact e) (he _ _ h2)
theorem sat_while {body : FS} (I : Nat → EnvW → List Cell → Prop) (n : Nat) (h0 : I n ρ st)
    (hs : ∀ n ρ st, I n ρ st → t ρ st = .ok false st ∨ (t ρ st = .ok true st ∧ Sat (nxP fun ρ2 st2 => ∃ m, m < n ∧ I m ρ2 st2) (body ρ st))) (he : ∀ m ρ st, I m ρ st → t ρ st = .ok false st → Sat P (rest ρ st)) : Sat P (xSeq (xWhile t body) rest ρ st) := by
  obtain ⟨m, ρ2, st2, e, h2, h3⟩ := while_inv (t := t) (g := body) I n h0 fun n ρ st hI => by
    rcases hs n ρ st hI with e | ⟨e, ρ2, st2, e2, m, hm, h2⟩
    · exact .inl e
    · exact .inr ⟨e, ρ2, st2, m, e2, hm, h2⟩
  exact sat_seq e (he _ _ _ h2 h3)
/-- a def that tells a plain value -/
theorem run_val {N : Nat} {body : FS} {Q : W → Prop} (h : Sat (rtP fun w st' => (∃ x, st' = st ++ x) ∧ undWs st.length [w] = true ∧ Q w) (body (ws.map some ++ List.replicate (N - ws.length) none) st)) : ∃ w, Q w ∧ runF N body ws st = .ok w st := by
  obtain ⟨w, st', e, ⟨x, rfl⟩, hu, q⟩ := h
  exact ⟨w, q, runF_app e hu⟩
theorem run_is {N : Nat} {body : FS} (h : Sat (rtP fun w' st' => w' = w ∧ ∃ x, st' = st ++ x) (body (ws.map some ++ List.replicate (N - ws.length) none) st)) (hu : undWs st.length [w] = true) : runF N body ws st = .ok w st := by
  obtain ⟨w, st', e, rfl, x, rfl⟩ := h
  exact runF_app e hu
/-- a def that tells a list of its own -/
theorem run_new {N : Nat} {body : FS} {Q : Nat → List Cell → Prop} (h : Sat (rtP fun w st' => ∃ j x, w = .loc (st.length + j) ∧ st' = st ++ x ∧ Q j x) (body (ws.map some ++ List.replicate (N - ws.length) none) st)) : ∃ j x, Q j x ∧ runF N body ws st = .ok (.loc (st.length + j)) (st ++ x) := by
  obtain ⟨w, st', e, j, x, rfl, rfl, q⟩ := h
  exact ⟨j, x, q, runF_new e⟩
theorem rangeW_at {q i : Nat} {lo : Int} {w : W} (h : (rangeW lo q)[i]? = some w) : i < q ∧ w = .int (lo + i) := by
  unfold rangeW at h
  obtain ⟨h1, h2⟩ := List.getElem?_eq_some_iff.mp h
  simp only [List.length_map, List.length_range] at h1
  exact ⟨h1, by rw [← h2]; simp⟩
theorem cut_pre {α : Type} {l : List α} {q : Nat} (h : q ≤ l.length) : cutW l none (some (q : Int)) = l.take q := by
  unfold cutW; rw [HT.sIx_none, HT.sIx_nat, Nat.min_eq_left h]; simp
theorem cut_suf {α : Type} {l : List α} {q : Nat} (h : q ≤ l.length) : cutW l (some (q : Int)) none = l.drop q := by
  unfold cutW; rw [HT.sIx_none, HT.sIx_nat, Nat.min_eq_left h]; rw [List.take_of_length_le (by simp)]
theorem mod_nat {q : Int} {n : Nat} (h : 0 < n) : ∃ m : Nat, m < n ∧ q % (n : Int) = m := by
  have h0 : 0 ≤ q % (n : Int) := Int.emod_nonneg _ (by omega)
  have h1 : q % (n : Int) < n := Int.emod_lt_of_pos _ (by omega)
  exact ⟨(q % (n : Int)).toNat, by omega, by omega⟩
end
section
variable {ρ : EnvW} {st st1 : List Cell} {t u : FT} {a b k : Bool} {P : RS → Prop} {g g' rest : FS} {w : W} {ws : List W}
theorem k_bnd2 (h1 : t ρ st = .ok a st) (h2 : u ρ st = .ok b st) : bnd t u ρ st = .ok (a && b) st := by cases a; exact k_bnd_f h1; exact k_bnd_t h1 h2
theorem k_bor2 (h1 : t ρ st = .ok a st) (h2 : u ρ st = .ok b st) : bor t u ρ st = .ok (a || b) st := by cases a; exact k_bor_f h1 h2; exact k_bor_t h1
theorem k_bnt2 (h1 : t ρ st = .ok a st) : bnt t ρ st = .ok (!a) st := k_bnt h1 rfl
theorem run_self' {N : Nat} {body : FS} (h : Sat (rtP fun w' st' => w' = w ∧ st' = st) (body (ws.map some ++ List.replicate (N - ws.length) none) st)) : runF N body ws st = .ok w st := by
  obtain ⟨w, st', e, rfl, rfl⟩ := h
  exact runF_self e
end
end L2
open L2
local macro_rules | `(tactic| walk_at "ev1") => `(tactic| first
  | (with_reducible apply k_var) <;> rfl
  | (with_reducible apply o_ixT) <;> rfl
  | with_reducible first
    | exact k_C | exact k_nil | exact k_strs | exact k_oN | exact o_addI | exact o_lenT | exact k_next | exact o_slT
    | apply k_2 | apply k_cons | apply k_tup | apply k_lst | apply k_call | apply k_def | apply k_asB | apply k_bnt | apply k_not
    | apply k_ml | apply k_ms | apply k_neg | apply k_isT | apply k_isN | apply k_notN | apply k_oS | apply k_sl | apply k_set | apply k_expr | apply k_ret | apply k_put
    | apply o_II | apply o_mulI | apply o_cmp | apply o_leI | apply o_eqI | apply o_neI | apply o_eqS | apply o_addS
  | decide
  | (show List.length _ ≤ LIM; exact Nat.le_of_ble_eq_true rfl)
  | (show @Eq Nat _ _; exact rfl)
  | (show @Eq Bool _ _; exact rfl)
  | (show @Eq (Option String) _ _; exact rfl)
  | (show @Eq _ _ _; with_reducible assumption))
local macro_rules | `(tactic| walk_at "evs") => `(tactic| repeat' walk_at "ev1")
local macro_rules | `(tactic| walk_at "tst") => `(tactic| first
  | (walk_at "evs"; done)
  | (apply k_bnd_f; (focus walk_at "tst"); done)
  | (apply k_bnd_t; (focus walk_at "tst"); (focus walk_at "tst"); done)
  | (apply k_bor_t; (focus walk_at "tst"); done)
  | (apply k_bor_f; (focus walk_at "tst"); (focus walk_at "tst"); done))
local macro_rules | `(tactic| walk_at "go1") => `(tactic| first
  | apply sat_next
  | (apply sat_seq_ret; (focus (walk_at "evs"; done)))
  | (apply sat_ret; (focus (walk_at "evs"; done)))
  | (apply sat_seq_t; (focus walk_at "tst"))
  | (apply sat_seq_f; (focus walk_at "tst"))
  | (apply sat_t; (focus walk_at "tst"))
  | (apply sat_f; (focus walk_at "tst"))
  | (apply sat_seq; (focus (walk_at "evs"; done))))
local macro_rules | `(tactic| walk_at "go") => `(tactic| repeat walk_at "go1")
local macro_rules | `(tactic| walk_at "tb") => `(tactic| repeat' (first | with_reducible apply k_bnd2 | with_reducible apply k_bor2 | with_reducible apply k_bnt2 | walk_at "ev1"))
local macro_rules | `(tactic| walk_at "len") => `(tactic| (simp only [List.length_append, List.length_cons, List.length_nil]; show _ ≤ 1000000; omega))
set_option Elab.async false
set_option linter.all false
set_option maxRecDepth 100000
set_option maxHeartbeats 4000000
namespace L2
open PySem PySem.Spec PyProof.Rows
section
variable {ρ ρ' ρ2 : EnvW} {st st1 st2 : List Cell} {fa fe : FE} {fs : FA} {g gh rest : FS} {ws : List W} {w : W} {n i : Nat} {c : Str} {cs : List Str} {P : RS → Prop} {b : Bool}
theorem o_eqB {p q : Bool} (h : (p == q) = b) : wEq (.bl p) (.bl q) st = .ok (.bl b) st := by rw [← h]; rfl
theorem sat_cut (I : EnvW → List Cell → Prop) (h : Sat (nxP I) (g ρ st)) (h2 : ∀ ρ st, I ρ st → Sat P (rest ρ st)) : Sat P (xSeq g rest ρ st) := by
  obtain ⟨ρ', st', e, hi⟩ := h
  exact sat_seq e (h2 _ _ hi)
end
end L2
set_option Elab.async false
set_option linter.all false
set_option maxRecDepth 100000
set_option maxHeartbeats 4000000
namespace L2
open PySem PySem.Spec PyProof.Rows
section
variable {ρ : EnvW} {st st1 : List Cell} {fi : FI} {f : FG} {t : FT} {el : FE} {cap : List (Option Nat)}
theorem compW_eq {ck : Option (Nat × List W)} {ρ0 : EnvW} (hc : chkOk st ck) (T : W → Bool) (Y : W → W) : ∀ (ws acc : List W), (∀ w ∈ ws, ∃ ρ', f w ρ0 = some ρ' ∧ t ρ' st = .ok (T w) st ∧ (T w = true → el ρ' st = .ok (Y w) st)) →
    compW f t el ck ρ0 ws acc st = .ok (acc ++ (ws.filter T).map Y) st
  | [], acc, _ => by unfold compW; rw [if_pos hc]; simp
  | w :: ws, acc, h => by
    obtain ⟨ρ', e1, e2, e3⟩ := h w (by simp)
    have ih := fun acc => compW_eq hc T Y ws acc fun w' hw' => h w' (by simp [hw'])
    unfold compW
    rw [if_pos hc, e1]
    simp only [e2]
    cases hT : T w with
    | true =>
      simp only [e3 hT]
      rw [ih]
      simp [List.filter_cons, hT]
    | false =>
      simp only
      rw [ih]
      simp [List.filter_cons, hT]
theorem k_comp {ws : List W} {ck : Option (Nat × List W)} (T : W → Bool) (Y : W → W) (h : fi ρ st = .ok (ws, ck) st1) (hl : ws.length ≤ LIM) (hc : chkOk st1 ck)
    (hs : ∀ w ∈ ws, ∃ ρ', f w (capW cap ρ) = some ρ' ∧ t ρ' st1 = .ok (T w) st1 ∧ (T w = true → el ρ' st1 = .ok (Y w) st1)) : eComp cap fi f t el ρ st = .ok (.loc st1.length) (st1 ++ [.lst ((ws.filter T).map Y)]) := by
  unfold eComp
  rw [h]
  simp only [R.bind_ok]
  rw [if_pos hl, compW_eq hc T Y ws [] hs]
  simp only [R.bind_ok, List.nil_append, mkLst]
  rw [if_pos]
  rw [List.length_map]
  exact Nat.le_trans (List.length_filter_le _ _) hl
theorem range_mem {q : Nat} {lo : Int} {w : W} (h : w ∈ rangeW lo q) : ∃ i : Nat, i < q ∧ w = .int (lo + i) := by
  unfold rangeW at h
  obtain ⟨i, hi, rfl⟩ := List.mem_map.mp h
  exact ⟨i, List.mem_range.mp hi, rfl⟩
theorem o_tupL {n : Nat} {ws : List W} (h : lstOf st n = some ws) : bTuple [.loc n] st = .ok (.tup ws) st := by unfold bTuple; simp only [h, ofO_some]
theorem o_addT {ws xs : List W} (h : (ws ++ xs).length ≤ LIM) : wAdd (.tup ws) (.tup xs) st = .ok (.tup (ws ++ xs)) st := by simp only [wAdd, mkTup]; rw [if_pos h]
theorem cut_nn {α : Type} {l : List α} {i j : Nat} (hj : j ≤ l.length) (hi : i ≤ j) : cutW l (some (i : Int)) (some (j : Int)) = (l.drop i).take (j - i) := by
  unfold cutW; rw [HT.sIx_nat, HT.sIx_nat, Nat.min_eq_left hj, Nat.min_eq_left (by omega)]
end
end L2
set_option Elab.async false
set_option linter.all false
set_option maxRecDepth 100000
set_option maxHeartbeats 4000000
namespace L2
open PySem PySem.Spec PyProof.Rows
open Builtin Builtin.Str
theorem free_join {c : Nat} : ∀ ws : List (List Nat), (∀ w ∈ ws, c ∉ w) → (joinN [c] ws).filter (fun d => d != c) = ws.flatten
  | [], _ => rfl
  | [x], h => by
    have hx : c ∉ x := h x (by simp)
    show x.filter _ = _
    rw [List.filter_eq_self.mpr fun d hd => by simp; rintro rfl; exact hx hd]
    simp
  | x :: y :: r, h => by
    have hx : c ∉ x := h x (by simp)
    show (x ++ [c] ++ joinN [c] (y :: r)).filter _ = _
    rw [List.filter_append, List.filter_append, free_join (y :: r) fun w hw => h w (List.mem_cons_of_mem _ hw), List.filter_eq_self.mpr fun d hd => by simp; rintro rfl; exact hx hd]
    simp
theorem repl_tx (l : List Nat) (c : Nat) : Txt.replace (tx l) (tx [c]) (tx []) = tx (l.filter fun d => d != c) := by
  obtain ⟨f, hg, hfree⟩ := StrLaws.occ_tight (tx l) (tx [c]) (by simp [tx, Str.length])
  obtain ⟨f', hc⟩ := StrLaws.occ_chain (tx l) (tx [c]) ((tx l).length + 1)
  have pf := StrLaws.parts_free (tx l) c _ 0 f hg hfree
  have pj := StrLaws.join_partsFrom (tx l) (tx [c]) _ 0 f' hc
  rw [StrLaws.sub_whole] at pj
  unfold Txt.replace
  rw [StrLaws.partsBetween_eq]
  have pe : (occurrences (tx l) (tx [c]) 0 (tx l).length ((tx l).length + 1)).isEmpty = true → StrLaws.partsFrom (tx l) (tx [c]).length 0 (occurrences (tx l) (tx [c]) 0 (tx l).length ((tx l).length + 1)) = [tx l] := fun h => by
    rw [List.isEmpty_iff.mp h]
    show [strSub (tx l) 0 (tx l).length] = _
    rw [StrLaws.sub_whole]
  generalize occurrences (tx l) (tx [c]) 0 (tx l).length ((tx l).length + 1) = os at pf pj pe ⊢
  have pf : ∀ p ∈ StrLaws.partsFrom (tx l) (tx [c]).length 0 os, c ∉ p.cps.toList := pf
  generalize StrLaws.partsFrom (tx l) (tx [c]).length 0 os = ps at pf pj pe ⊢
  have em : ps = (ps.map fun z => z.cps.toList).map tx := by
    rw [List.map_map]
    conv => lhs; rw [← List.map_id ps]
    exact List.map_congr_left fun z _ => (tx_of z).symm
  have fr : ∀ w ∈ ps.map (fun z => z.cps.toList), c ∉ w := fun w hw => by
    obtain ⟨p, hp, rfl⟩ := List.mem_map.mp hw
    exact pf p hp
  generalize ps.map (fun z => z.cps.toList) = ws at em fr
  subst em
  have ej : ∀ sep : List Nat, Str.join (tx sep) (ws.map tx) = tx (joinN sep ws) := fun sep => by
    rw [← join_tx sep ws]
    show _ = glued _ _
    rw [StrLaws.glued_eq_join]
  rw [ej] at pj
  have el : joinN [c] ws = l := tx_inj.mp pj
  have hfl := free_join ws fr
  rw [el] at hfl
  split
  · rename_i h
    rw [show ((tx [c]).length == 0 && (tx []).length == 0) = false from rfl, Bool.or_false] at h
    have e1 := pe h
    have : ws.flatten = l := by
      have e2 : ws = [l] := by
        cases ws with
        | nil => cases e1
        | cons a r =>
          cases r with
          | nil => simp only [List.map_cons, List.map_nil, List.cons.injEq, and_true] at e1; rw [tx_inj.mp e1]
          | cons _ _ => simp at e1
      rw [e2]; simp
    rw [hfl, this]
  · rw [StrLaws.glued_eq_join, ej, joinN_nil, hfl]
section
variable {X : Cx} {o e : Expr} {to te : TE} {apos cpos p2 : Pos} {j : Nat}
def tRepl (to te : TE) : TE := fun σ H Q => to σ H fun x H1 => (∃ l, x = .str (tx l)) ∧ te σ H1 fun y H2 => ∃ l c, x = .str (tx l) ∧ y = .str (tx [c]) ∧ l.length ≤ 1000000 ∧ Q (.str (tx (l.filter fun d => d != c))) H2
theorem pe_repl (ho : PE X o to) (he : PE X e te)
    (hbase : attributeBase o "replace" X.env (eval o X.env) = eval o X.env)
    (hfew : ((backTo cpos (starEach [e, .Constant (.str (tx [])) j p2] X.env)).all (fun x => !x.1) && (backToKw cpos (keywordEach [] X.env)).all (fun x => x.1.isSome)
      && decide ([e, .Constant (.str (tx [])) j p2].length + ([] : List Keyword).length + (if ([] : List Keyword).isEmpty then 0 else 1) < 30)) = true)
    (hline : (apos.endLine == cpos.line) = true) (hs : starEach [e, .Constant (.str (tx [])) j p2] X.env = (false, eval e X.env) :: starEach [.Constant (.str (tx [])) j p2] X.env) :
    PE X (.Call (.Attribute o "replace" apos) [e, .Constant (.str (tx [])) j p2] [] cpos) (tRepl to te) := by
  intro pins s σ H Q I h
  refine wpAny_Call_method_late hbase hfew hline rfl (thu (ho pins s σ H _ I h) fun v s1 kt1 ⟨x, H1, I1, r1, ty, q1⟩ => ?_)
  obtain ⟨h1, h2⟩ := tyV_is I1 r1 (tyV_str ty)
  refine ⟨"str", _, F.plainAttrs_str, F.slot_str_replace, F.type_str_replace, h1, h2, ?_⟩
  rw [hs]
  refine Calls.callWith_builtin rfl (Calls.evalArgs_plain ?_)
  show wpAny _ _ (spliced ((false, eval e X.env) :: backTo cpos (starEach [.Constant (.str (tx [])) j p2] X.env))) _ _ s1
  refine Calls.spliced_cons (thu (he pins s1 σ H1 _ I1 q1) fun u s2 kt2 ⟨y, H2, I2, r2, l, c, ex, ey, hl, q2⟩ => ?_)
  subst ex ey
  obtain ⟨t, rfl⟩ := r1.up kt2
  obtain ⟨t2, rfl⟩ := r2
  show wpAny _ _ (spliced ((false, eval (.Constant (.str (tx [])) j p2) X.env) :: backTo cpos (starEach [] X.env))) _ _ s2
  refine Calls.spliced_cons (Calls.Constant_str ?_)
  show wpAny _ _ (spliced []) _ _ _
  refine Calls.spliced_nil ?_
  obtain ⟨p1, p2⟩ := t2.2 rfl
  have n1 : t2.1 ≠ 0 := Nat.ne_of_gt p1
  have n2 : s2.toks ≠ 0 := Nat.ne_of_gt I2.pos
  have n3 : t2.1 ≠ s2.toks := Nat.ne_of_lt p2
  have e0 : (tx []).length = 0 := rfl
  have e1 : (1000000 : Nat) ≤ sizeLine := by decide
  refine call_gives F.slot_str_replace (typeIs_str _ _ _) F.entry_str_replace (F.args_str_replace_3 _ _ _)
    (gives_str_replace (tx l) (tx [c]) (tx []) t.1 t2.1 s2.toks fun _ => ⟨by simp [n1, n2], by simp [n3], rfl, ?_⟩) ?_
  · rw [e0, Nat.mul_zero, Nat.add_zero, tx_len]
    unfold tooLong
    exact decide_eq_false (by omega)
  · have hq := repl_tx l c
    unfold Txt.replace at hq
    cases hc : ((occurrences (tx l) (tx [c]) 0 (tx l).length ((tx l).length + 1)).isEmpty || ((tx [c]).length == 0 && (tx []).length == 0))
    · rw [hc] at hq
      simp only [Bool.false_eq_true, if_false] at hq ⊢
      rw [hq]
      have I3 := I2.tok (s2.toks + 1)
      refine ⟨?_, ⟨.str _, H2, I3.tok _, I3.tkS, q2⟩⟩
      rw [tx_len]
      exact Nat.le_trans (List.length_filter_le _ _) (Nat.le_trans hl e1)
    · rw [hc] at hq
      simp only [if_true] at hq ⊢
      rw [← hq] at q2
      exact ⟨.str (tx l), H2, I2.tok _, ⟨t.up (Nat.le_succ _), rfl⟩, q2⟩
end
section
variable {X : Cx} {o e : Expr} {fo fe : FE} {apos cpos p2 : Pos} {j : Nat}
def wRepl : W → W → List Cell → R W
  | .str l, .str [c], st => if l.length ≤ LIM then .ok (.str (l.filter fun d => d != c)) st else .bad
  | _, _, _ => .bad
def eRepl (fo fe : FE) : FE := fun ρ st => (fo ρ st).bind fun x st => if isStr x then (fe ρ st).bind fun y st => wRepl x y st else .bad
theorem s_repl {z : Str} (ho : SE X o fo) (he : SE X e fe) (hz : z = tx [] := by first | rfl | decide +kernel)
    (hbase : attributeBase o "replace" X.env (eval o X.env) = eval o X.env := by rfl)
    (hfew : ((backTo cpos (starEach [e, .Constant (.str z) j p2] X.env)).all (fun x => !x.1) && (backToKw cpos (keywordEach [] X.env)).all (fun x => x.1.isSome)
      && decide ([e, .Constant (.str z) j p2].length + ([] : List Keyword).length + (if ([] : List Keyword).isEmpty then 0 else 1) < 30)) = true := by rfl)
    (hline : (apos.endLine == cpos.line) = true := by rfl) (hs : starEach [e, .Constant (.str z) j p2] X.env = (false, eval e X.env) :: starEach [.Constant (.str z) j p2] X.env := by rfl) :
    SE X (.Call (.Attribute o "replace" apos) [e, .Constant (.str z) j p2] [] cpos) (eRepl fo fe) := ⟨by
  subst hz
  refine (pe_repl ho.h he.h hbase hfew hline hs).imp fun σ H Q h => ?_
  obtain ⟨μ, ρ, st, l, h⟩ := h
  refine ⟨μ, ρ, st, l, RK.bind h l fun μ1 st1 x v H1 p1 x1 l1 q1 h1 => ?_⟩
  cases x with
  | str z =>
    rw [if_pos (show isStr (W.str z) = true from rfl)] at h1
    refine ⟨⟨z, q1.strE⟩, μ1, ρ, st1, l1, RK.bind h1 l1 fun μ2 st2 y u H2 p2 x2 l2 q2 h2 => ?_⟩
    unfold wRepl at h2
    split at h2
    · rename_i l' c e1
      cases e1
      split at h2
      · rename_i hl
        exact ⟨_, c, q1.strE, q2.strE, hl, h2 μ2 _ H2 (List.prefix_refl _) Ext.refl l2.sto .str⟩
      · exact h2.elim
    · exact h2.elim
  | _ => exact h1.elim⟩
theorem k_repl {ρ : EnvW} {st st1 st2 : List Cell} {l : List Nat} {c : Nat} (h1 : fo ρ st = .ok (.str l) st1) (h2 : fe ρ st1 = .ok (.str [c]) st2) (hl : l.length ≤ LIM) : eRepl fo fe ρ st = .ok (.str (l.filter fun d => d != c)) st2 := by
  unfold eRepl
  rw [h1]
  simp only [R.bind_ok]
  rw [if_pos (show isStr (W.str l) = true from rfl), h2]
  simp only [R.bind_ok]
  unfold wRepl
  simp only
  rw [if_pos hl]
end
end L2
set_option Elab.async false
set_option linter.all false
set_option maxRecDepth 100000
set_option maxHeartbeats 4000000
namespace P
open PySem L2
open PyProof.Rows (boot_sorted boot_set boot_ord boot_all boot_enumerate boot_int boot_str boot_bool boot_list boot_tuple boot_isinstance boot_max boot_min)
def top (i : Nat) : Stmt := PySem.Challenge.pw_trunksay_k08_order_of_trees.main.body.getD i (.Pass ⟨0, 0, 0, 0⟩)
abbrev s_letter_of : Stmt := top 2
abbrev n_letter_of : List Str := ["names", "marks", "number", "name"]
abbrev p_letter_of : List Str := ["names", "marks"]
theorem sc_letter_of : FnScope n_letter_of p_letter_of (defScope s_letter_of) := scQ
abbrev s_has_left : Stmt := top 4
abbrev n_has_left : List Str := ["place"]
abbrev p_has_left : List Str := ["place"]
theorem sc_has_left : FnScope n_has_left p_has_left (defScope s_has_left) := scQ
abbrev s_has_right : Stmt := top 5
abbrev n_has_right : List Str := ["place"]
abbrev p_has_right : List Str := ["place"]
theorem sc_has_right : FnScope n_has_right p_has_right (defScope s_has_right) := scQ
abbrev s_key_of : Stmt := top 7
abbrev n_key_of : List Str := ["tree", "empty", "keys", "place", "right", "left"]
abbrev p_key_of : List Str := ["tree"]
theorem sc_key_of : FnScope n_key_of p_key_of (defScope s_key_of) := scQ
abbrev s_comes_ahead : Stmt := top 8
abbrev n_comes_ahead : List Str := ["one", "other"]
abbrev p_comes_ahead : List Str := ["one", "other"]
theorem sc_comes_ahead : FnScope n_comes_ahead p_comes_ahead (defScope s_comes_ahead) := scQ
abbrev s__law_cell : Stmt := top 10
abbrev n__law_cell : List Str := ["_law_script", "_law_k"]
abbrev p__law_cell : List Str := ["_law_script", "_law_k"]
theorem sc__law_cell : FnScope n__law_cell p__law_cell (defScope s__law_cell) := scQ
abbrev s__law_mixed : Stmt := top 11
abbrev n__law_mixed : List Str := ["_law_cell_here", "_law_k", "_law_salt", "_law_first"]
abbrev p__law_mixed : List Str := ["_law_cell_here", "_law_k", "_law_salt"]
theorem sc__law_mixed : FnScope n__law_mixed p__law_mixed (defScope s__law_mixed) := scQ
abbrev s__law_draws : Stmt := top 12
abbrev n__law_draws : List Str := ["_law_cell_here", "_law_many", "_law_salt", "_law_found", "_law_rest", "_law_k"]
abbrev p__law_draws : List Str := ["_law_cell_here", "_law_many", "_law_salt"]
theorem sc__law_draws : FnScope n__law_draws p__law_draws (defScope s__law_draws) := scQ
abbrev s__law_size : Stmt := top 13
abbrev n__law_size : List Str := ["_law_cell_here", "_law_salt", "_law_most", "_law_draws_here", "_law_size_here"]
abbrev p__law_size : List Str := ["_law_cell_here", "_law_salt", "_law_most"]
theorem sc__law_size : FnScope n__law_size p__law_size (defScope s__law_size) := scQ
abbrev s__law_same : Stmt := top 14
abbrev n__law_same : List Str := ["_law_found", "_law_due", "_law_k"]
abbrev p__law_same : List Str := ["_law_found", "_law_due"]
theorem sc__law_same : FnScope n__law_same p__law_same (defScope s__law_same) := scQ
abbrev s__law_pool : Stmt := top 15
abbrev n__law_pool : List Str := ["_law_cell_here", "_law_many", "_law_salt", "_law_rest", "_law_found", "_law_d", "_law_at"]
abbrev p__law_pool : List Str := ["_law_cell_here", "_law_many", "_law_salt"]
theorem sc__law_pool : FnScope n__law_pool p__law_pool (defScope s__law_pool) := scQ
abbrev s__law_marks : Stmt := top 16
abbrev n__law_marks : List Str := ["_law_pool_here", "_law_number"]
abbrev p__law_marks : List Str := ["_law_pool_here", "_law_number"]
theorem sc__law_marks : FnScope n__law_marks p__law_marks (defScope s__law_marks) := scQ
abbrev s__law_wood : Stmt := top 17
abbrev n__law_wood : List Str := ["_law_draws_here", "_law_pool_here", "_law_most", "_law_found", "_law_high", "_law_d", "_law_branches", "_law_many"]
abbrev p__law_wood : List Str := ["_law_draws_here", "_law_pool_here", "_law_most"]
theorem sc__law_wood : FnScope n__law_wood p__law_wood (defScope s__law_wood) := scQ
abbrev s__law_sizes : Stmt := top 18
abbrev n__law_sizes : List Str := ["_law_tree", "_law_found", "_law_k", "_law_size_here"]
abbrev p__law_sizes : List Str := ["_law_tree"]
theorem sc__law_sizes : FnScope n__law_sizes p__law_sizes (defScope s__law_sizes) := scQ
abbrev s__law_letters : Stmt := top 19
abbrev n__law_letters : List Str := []
abbrev p__law_letters : List Str := []
theorem sc__law_letters : FnScope n__law_letters p__law_letters (defScope s__law_letters) := scQ
abbrev s__law_weight : Stmt := top 20
abbrev n__law_weight : List Str := ["_law_marks_here", "_law_found", "_law_letter"]
abbrev p__law_weight : List Str := ["_law_marks_here"]
theorem sc__law_weight : FnScope n__law_weight p__law_weight (defScope s__law_weight) := scQ
abbrev s__law_key : Stmt := top 21
abbrev n__law_key : List Str := ["_law_tree", "_law_heap", "_law_branches", "_law_marks_here", "_law_right", "_law_left"]
abbrev p__law_key : List Str := ["_law_tree"]
theorem sc__law_key : FnScope n__law_key p__law_key (defScope s__law_key) := scQ
abbrev s__law_marked : Stmt := top 22
abbrev n__law_marked : List Str := ["_law_tree", "_law_cell_here", "_law_salt", "_law_draws_here", "_law_at", "_law_marks_here"]
abbrev p__law_marked : List Str := ["_law_tree", "_law_cell_here", "_law_salt"]
theorem sc__law_marked : FnScope n__law_marked p__law_marked (defScope s__law_marked) := scQ
abbrev s__law_near : Stmt := top 23
abbrev n__law_near : List Str := ["_law_tree", "_law_pool_here", "_law_ways", "_law_at", "_law_branches", "_law_marks_here", "_law_sizes_here", "_law_cut", "_law_start", "_law_turned", "_law_letter"]
abbrev p__law_near : List Str := ["_law_tree", "_law_pool_here", "_law_ways"]
theorem sc__law_near : FnScope n__law_near p__law_near (defScope s__law_near) := scQ
abbrev s_law : Stmt := top 24
abbrev n_law : List Str := ["_law_script", "_law_pool_here", "_law_trees", "_law_k", "_law_size_here", "_law_draws_here", "_law_ways", "_law_keys", "_law_i"]
abbrev p_law : List Str := ["_law_script"]
theorem sc_law : FnScope n_law p_law (defScope s_law) := scQ
structure Bl (mg : Str → Option Value) : Prop where
  bool : mg "bool" = Option.none
  int : mg "int" = Option.none
  isinstance : mg "isinstance" = Option.none
  len : mg "len" = Option.none
  range : mg "range" = Option.none
  sorted : mg "sorted" = Option.none
  str : mg "str" = Option.none
  tuple : mg "tuple" = Option.none
def c_ALL_LETTERS : W := .str [65, 66, 67, 68, 69, 70, 71, 72, 73, 74, 75, 76, 77, 78, 79, 80, 81, 82, 83, 84, 85, 86, 87, 88, 89, 90, 97, 98, 99, 100, 101, 102, 103, 104, 105, 106, 107, 108, 109, 110, 111, 112, 113, 114, 115, 116, 117, 118, 119, 120, 121, 122]
structure Gc (K : PySem.W.Frag) (mg : Str → Option Value) : Prop where
  ALL_LETTERS : ∃ u v, mg "ALL_LETTERS" = some u ∧ RelV 0 v u ∧ ∀ μ H, RelW K μ H c_ALL_LETTERS v
section
variable {P : Program} {w : World} {K : PySem.W.Frag} {mg : Str → Option Value} {base : Heap} {f : Addr} {fd : FuncData}
noncomputable def g_letter_of : FS := (xSeq (xSet 2 (eC (.int 0))) (xSeq (xFor (itAny (eVar 0)) (gNm 3) (xSeq (xSet 2 (e2 wMulA (eVar 2) (eC (.int 2)))) (xIf (asB (e2 (wIn false) (eVar 3) (eVar 1))) (xSet 2 (e2 wAdd (eVar 2) (eC (.int 1)))) xNext))) (xRet (eVar 2))))
noncomputable def f_letter_of : List W → List Cell → R W := runF 4 g_letter_of
theorem ok_letter_of (F : Fun K "letter_of" "letter_of" s_letter_of f fd)   : FnOk P w K mg base (CX1 P w) 1 f fd p_letter_of (spW K mg 2 f_letter_of) :=
  fnW_of (k := 0) F sc_letter_of rfl fun cdv A outer s H E hr => (sb_cons (sS 2 sc_letter_of s_int) (sb_cons (ss_for (si_any (s_var 0)) (sG 3 sc_letter_of) (sb_cons (sS 2 sc_letter_of (s_op w_mulA (s_var 2) s_int)) (sb_one (ss_if (st_cmp (w_in hr) (s_var 3) (s_var 1)) (sb_one (sS 2 sc_letter_of (s_op w_add (s_var 2) s_int))) sb_nil)))) (sb_one (ss_ret (s_var 2)))))
noncomputable def g_has_left : FS := (xRet (e2 (wIn false) (e2 wIx (eVar 0) (eC (.int 0))) (eTup (aCons (eC (.int 1)) (aCons (eC (.int 3)) aNil)))))
noncomputable def f_has_left : List W → List Cell → R W := runF 1 g_has_left
theorem ok_has_left (F : Fun K "has_left" "has_left" s_has_left f fd)   : FnOk P w K mg base (CX1 P w) 1 f fd p_has_left (spW K mg 1 f_has_left) :=
  fnW_of (k := 0) F sc_has_left rfl fun cdv A outer s H E hr => (sb_one (ss_ret (s_cmp (w_in hr) (s_ix (s_var 0) s_int) (s_tup (sa_cons s_int (sa_cons s_int sa_nil))))))
noncomputable def g_has_right : FS := (xRet (e2 (wIn false) (e2 wIx (eVar 0) (eC (.int 0))) (eTup (aCons (eC (.int 2)) (aCons (eC (.int 3)) aNil)))))
noncomputable def f_has_right : List W → List Cell → R W := runF 1 g_has_right
theorem ok_has_right (F : Fun K "has_right" "has_right" s_has_right f fd)   : FnOk P w K mg base (CX1 P w) 1 f fd p_has_right (spW K mg 1 f_has_right) :=
  fnW_of (k := 0) F sc_has_right rfl fun cdv A outer s H E hr => (sb_one (ss_ret (s_cmp (w_in hr) (s_ix (s_var 0) s_int) (s_tup (sa_cons s_int (sa_cons s_int sa_nil))))))
noncomputable def g_key_of : FS := (xSeq (xSet 1 (eLst (aCons (eC (.int 0)) aNil))) (xSeq (xSet 2 (eLst aNil)) (xSeq (xFor (itAny (eVar 0)) (gNm 3) (xSeq (xSet 4 (eIf (asB (eDef 1 f_has_right (aCons (eVar 3) aNil))) (eML mPop (eVar 2) aNil) (eVar 1))) (xSeq (xSet 5 (eIf (asB (eDef 1 f_has_left (aCons (eVar 3) aNil))) (eML mPop (eVar 2) aNil) (eVar 1))) (xExpr (eML mAppend (eVar 2) (aCons (e2 wAdd (e2 wAdd (e2 wAdd (eLst (aCons (e2 wAdd (e2 wAdd (e2 wIx (eVar 5) (eC (.int 0))) (e2 wIx (eVar 4) (eC (.int 0)))) (eC (.int 1))) aNil)) (eVar 5)) (eVar 4)) (eLst (aCons (eDef 2 f_letter_of (aCons (eC c_ALL_LETTERS) (aCons (e2 wIx (eVar 3) (eC (.int 1))) aNil))) aNil))) aNil)))))) (xRet (eIf (asB (e2 wGt (eCall bLen (aCons (eVar 2) aNil)) (eC (.int 0)))) (e2 wIx (eVar 2) (eC (.int 0))) (eVar 1))))))
noncomputable def f_key_of : List W → List Cell → R W := runF 6 g_key_of
theorem ok_key_of (F : Fun K "key_of" "key_of" s_key_of f fd) (B : Bl mg) (G : Gc K mg) (h_has_left : HasW P w K mg base 1 "has_left" 1 f_has_left) (h_has_right : HasW P w K mg base 1 "has_right" 1 f_has_right) (h_letter_of : HasW P w K mg base 1 "letter_of" 2 f_letter_of) : FnOk P w K mg base (CX1 P w) 2 f fd p_key_of (spW K mg 1 f_key_of) :=
  fnW_of (k := 1) F sc_key_of rfl fun cdv A outer s H E hr => (sb_cons (sS 1 sc_key_of (s_lst (sa_cons s_int sa_nil))) (sb_cons (sS 2 sc_key_of (s_lst sa_nil)) (sb_cons (ss_for (si_any (s_var 0)) (sG 3 sc_key_of) (sb_cons (sS 4 sc_key_of (s_if (st_val (s_def h_has_right hr (by omega) (sa_cons (s_var 3) sa_nil))) (s_ml0 PySem.F.slot_list_pop PySem.F.type_list_pop m_popW (s_var 2)) (s_var 1))) (sb_cons (sS 5 sc_key_of (s_if (st_val (s_def h_has_left hr (by omega) (sa_cons (s_var 3) sa_nil))) (s_ml0 PySem.F.slot_list_pop PySem.F.type_list_pop m_popW (s_var 2)) (s_var 1))) (sb_one (ss_expr (s_ml PySem.F.slot_list_append PySem.F.type_list_append m_appendW (s_var 2) (sa_cons (s_op w_add (s_op w_add (s_op w_add (s_lst (sa_cons (s_op w_add (s_op w_add (s_ix (s_var 5) s_int) (s_ix (s_var 4) s_int)) s_int) sa_nil)) (s_var 5)) (s_var 4)) (s_lst (sa_cons (s_def h_letter_of hr (by omega) (sa_cons (s_gc G.ALL_LETTERS) (sa_cons (s_ix (s_var 3) s_int) sa_nil))) sa_nil))) sa_nil))))))) (sb_one (ss_ret (s_if (st_cmp w_gt (s_callB b_len B.len PySem.boot_len (sa_cons (s_var 2) sa_nil)) s_int) (s_ix (s_var 2) s_int) (s_var 1)))))))
noncomputable def g_comes_ahead : FS := (xRet (e2 wLtL (eDef 1 f_key_of (aCons (eVar 0) aNil)) (eDef 1 f_key_of (aCons (eVar 1) aNil))))
noncomputable def f_comes_ahead : List W → List Cell → R W := runF 2 g_comes_ahead
theorem ok_comes_ahead (F : Fun K "comes_ahead" "comes_ahead" s_comes_ahead f fd)  (h_key_of : HasW P w K mg base 2 "key_of" 1 f_key_of) : FnOk P w K mg base (CX1 P w) 3 f fd p_comes_ahead (spW K mg 2 f_comes_ahead) :=
  fnW_of (k := 2) F sc_comes_ahead rfl fun cdv A outer s H E hr => (sb_one (ss_ret (s_cmp (w_ltL hr) (s_def h_key_of hr (by omega) (sa_cons (s_var 0) sa_nil)) (s_def h_key_of hr (by omega) (sa_cons (s_var 1) sa_nil)))))
noncomputable def g__law_cell : FS := (xSeq (xIf (asB (e2 wEq (eCall bLen (aCons (eVar 0) aNil)) (eC (.int 0)))) (xRet (eC (.int 0))) xNext) (xRet (e2 wIx (eVar 0) (e2 wMod (eVar 1) (eCall bLen (aCons (eVar 0) aNil))))))
noncomputable def f__law_cell : List W → List Cell → R W := runF 2 g__law_cell
theorem ok__law_cell (F : Fun K "_law_cell" "_law_cell" s__law_cell f fd) (B : Bl mg)  : FnOk P w K mg base (CX1 P w) 1 f fd p__law_cell (spW K mg 2 f__law_cell) :=
  fnW_of (k := 0) F sc__law_cell rfl fun cdv A outer s H E hr => (sb_cons (ss_if (st_cmp (w_eq hr) (s_callB b_len B.len PySem.boot_len (sa_cons (s_var 0) sa_nil)) s_int) (sb_one (ss_ret s_int)) sb_nil) (sb_one (ss_ret (s_ix (s_var 0) (s_op w_mod (s_var 1) (s_callB b_len B.len PySem.boot_len (sa_cons (s_var 0) sa_nil)))))))
noncomputable def g__law_mixed : FS := (xSeq (xSet 3 (e2 wMod (e2 wMulA (e2 wAdd (e2 wAdd (e2 wAdd (eVar 0) (e2 wMulA (e2 wMulA (eC (.int 7)) (eVar 1)) (eVar 1))) (e2 wMulA (eC (.int 13)) (eVar 1))) (eVar 2)) (eC (.int 69621))) (eC (.int 2147483647)))) (xRet (e2 wMod (e2 wMulA (e2 wMod (e2 wAdd (e2 wAdd (e2 wMulA (eVar 3) (e2 wAdd (e2 wFdiv (eVar 3) (eC (.int 1009))) (eC (.int 3)))) (e2 wMulA (eC (.int 31)) (eVar 1))) (eVar 2)) (eC (.int 2147483629))) (eC (.int 48271))) (eC (.int 1000000007)))))
noncomputable def f__law_mixed : List W → List Cell → R W := runF 4 g__law_mixed
theorem ok__law_mixed (F : Fun K "_law_mixed" "_law_mixed" s__law_mixed f fd)   : FnOk P w K mg base (CX1 P w) 1 f fd p__law_mixed (spW K mg 3 f__law_mixed) :=
  fnW_of (k := 0) F sc__law_mixed rfl fun cdv A outer s H E hr => (sb_cons (sS 3 sc__law_mixed (s_op w_mod (s_op w_mulA (s_op w_add (s_op w_add (s_op w_add (s_var 0) (s_op w_mulA (s_op w_mulA s_int (s_var 1)) (s_var 1))) (s_op w_mulA s_int (s_var 1))) (s_var 2)) s_int) s_int)) (sb_one (ss_ret (s_op w_mod (s_op w_mulA (s_op w_mod (s_op w_add (s_op w_add (s_op w_mulA (s_var 3) (s_op w_add (s_op w_fdiv (s_var 3) s_int) s_int)) (s_op w_mulA s_int (s_var 1))) (s_var 2)) s_int) s_int) s_int))))
noncomputable def g__law_draws : FS := (xSeq (xSet 3 (eLst aNil)) (xSeq (xSet 4 (eC (.int 0))) (xSeq (xIf (asB (e2 wGe (eVar 0) (e2 wPow (eC (.int 10)) (eC (.int 18))))) (xSet 4 (eVar 0)) xNext) (xSeq (xFor (itRange1 (aCons (eVar 1) aNil)) (gNm 5) (xIf (asB (e2 wGt (eVar 4) (eC (.int 0)))) (xSeq (xExpr (eML mAppend (eVar 3) (aCons (e2 wMod (eVar 4) (eC (.int 64))) aNil))) (xSet 4 (e2 wFdiv (eVar 4) (eC (.int 64))))) (xExpr (eML mAppend (eVar 3) (aCons (eDef 3 f__law_mixed (aCons (eVar 0) (aCons (eVar 5) (aCons (eVar 2) aNil)))) aNil))))) (xRet (eVar 3))))))
noncomputable def f__law_draws : List W → List Cell → R W := runF 6 g__law_draws
theorem ok__law_draws (F : Fun K "_law_draws" "_law_draws" s__law_draws f fd) (B : Bl mg) (h__law_mixed : HasW P w K mg base 1 "_law_mixed" 3 f__law_mixed) : FnOk P w K mg base (CX1 P w) 2 f fd p__law_draws (spW K mg 3 f__law_draws) :=
  fnW_of (k := 1) F sc__law_draws rfl fun cdv A outer s H E hr => (sb_cons (sS 3 sc__law_draws (s_lst sa_nil)) (sb_cons (sS 4 sc__law_draws s_int) (sb_cons (ss_if (st_cmp w_ge (s_var 0) (s_op w_pow s_int s_int)) (sb_one (sS 4 sc__law_draws (s_var 0))) sb_nil) (sb_cons (ss_for (si_range1 B.range (sa_cons (s_var 1) sa_nil)) (sG 5 sc__law_draws) (sb_one (ss_if (st_cmp w_gt (s_var 4) s_int) (sb_cons (ss_expr (s_ml PySem.F.slot_list_append PySem.F.type_list_append m_appendW (s_var 3) (sa_cons (s_op w_mod (s_var 4) s_int) sa_nil))) (sb_one (sS 4 sc__law_draws (s_op w_fdiv (s_var 4) s_int)))) (sb_one (ss_expr (s_ml PySem.F.slot_list_append PySem.F.type_list_append m_appendW (s_var 3) (sa_cons (s_def h__law_mixed hr (by omega) (sa_cons (s_var 0) (sa_cons (s_var 5) (sa_cons (s_var 2) sa_nil)))) sa_nil))))))) (sb_one (ss_ret (s_var 3)))))))
noncomputable def g__law_size : FS := (xSeq (xSet 3 (eDef 3 f__law_draws (aCons (eVar 0) (aCons (eC (.int 3)) (aCons (eVar 1) aNil))))) (xSeq (xSet 4 (e2 wMod (e2 wAdd (e2 wIx (eVar 3) (eC (.int 0))) (e2 wMulA (eC (.int 64)) (e2 wIx (eVar 3) (eC (.int 1))))) (e2 wAdd (eVar 2) (eC (.int 1))))) (xSeq (xIf (asB (e2 wEq (e2 wMod (e2 wIx (eVar 3) (eC (.int 2))) (eC (.int 3))) (eC (.int 0)))) (xRet (e2 wMod (eVar 4) (eC (.int 7)))) xNext) (xRet (eVar 4)))))
noncomputable def f__law_size : List W → List Cell → R W := runF 5 g__law_size
theorem ok__law_size (F : Fun K "_law_size" "_law_size" s__law_size f fd)  (h__law_draws : HasW P w K mg base 2 "_law_draws" 3 f__law_draws) : FnOk P w K mg base (CX1 P w) 3 f fd p__law_size (spW K mg 3 f__law_size) :=
  fnW_of (k := 2) F sc__law_size rfl fun cdv A outer s H E hr => (sb_cons (sS 3 sc__law_size (s_def h__law_draws hr (by omega) (sa_cons (s_var 0) (sa_cons s_int (sa_cons (s_var 1) sa_nil))))) (sb_cons (sS 4 sc__law_size (s_op w_mod (s_op w_add (s_ix (s_var 3) s_int) (s_op w_mulA s_int (s_ix (s_var 3) s_int))) (s_op w_add (s_var 2) s_int))) (sb_cons (ss_if (st_cmp (w_eq hr) (s_op w_mod (s_ix (s_var 3) s_int) s_int) s_int) (sb_one (ss_ret (s_op w_mod (s_var 4) s_int))) sb_nil) (sb_one (ss_ret (s_var 4))))))
noncomputable def g__law_same (r__law_same : List W → List Cell → R W) : FS := (xSeq (xIf (asB (eIsT "tuple" (eVar 1))) (xSeq (xIf (bor (bnt (asB (eIsT "tuple" (eVar 0)))) (asB (e2 wNe (eCall bLen (aCons (eVar 0) aNil)) (eCall bLen (aCons (eVar 1) aNil))))) (xRet (eC (.bl false))) xNext) (xSeq (xFor (itRange1 (aCons (eCall bLen (aCons (eVar 1) aNil)) aNil)) (gNm 2) (xIf (bnt (asB (eDef 2 r__law_same (aCons (e2 wIx (eVar 0) (eVar 2)) (aCons (e2 wIx (eVar 1) (eVar 2)) aNil))))) (xRet (eC (.bl false))) xNext)) (xRet (eC (.bl true))))) xNext) (xSeq (xIf (asB (eIsN (eVar 1))) (xRet (eIsN (eVar 0))) xNext) (xSeq (xIf (asB (eIsT "bool" (eVar 1))) (xRet (eAnd (eIsT "bool" (eVar 0)) (e2 wEq (eVar 0) (eVar 1)))) xNext) (xSeq (xIf (asB (eIsT "int" (eVar 1))) (xRet (eAnd (eIsT "int" (eVar 0)) (eAnd (eNot (eIsT "bool" (eVar 0))) (e2 wEq (eVar 0) (eVar 1))))) xNext) (xRet (eAnd (eIsT "str" (eVar 0)) (e2 wEq (eVar 0) (eVar 1))))))))
noncomputable def f__law_same : Nat → List W → List Cell → R W
  | 0 => fun _ _ => .bad
  | k + 1 => runF 3 (g__law_same (f__law_same k))
theorem has__law_same {fa__law_same : Addr} {fd__law_same : FuncData} (F__law_same : Fun K "_law_same" "_law_same" s__law_same fa__law_same fd__law_same) (m__law_same : mg "_law_same" = some (.ref fa__law_same)) (B : Bl mg)  : ∀ k : Nat, HasW P w K mg base (0 + k) "_law_same" 2 (f__law_same k)
  | 0 => hasW_bad (ps := p__law_same) F__law_same m__law_same rfl (fun _ _ _ _ _ _ us hl => match us, hl with | [_, _], _ => rfl)
  | k + 1 => by
    have h__law_same := has__law_same F__law_same m__law_same B  k
    exact hasW_mk (ps := p__law_same) F__law_same m__law_same rfl (fun _ _ _ _ _ _ us hl => match us, hl with | [_, _], _ => rfl) (fnW_of (k := 0 + k) F__law_same sc__law_same rfl fun cdv A outer s H E hr => (sb_cons (ss_if (st_val (s_isT B.isinstance B.tuple boot_tuple (s_var 1))) (sb_cons (ss_if (st_w (sw_or (st_not (st_val (s_isT B.isinstance B.tuple boot_tuple (s_var 0)))) (sw_or1 (st_cmp (w_ne hr) (s_callB b_len B.len PySem.boot_len (sa_cons (s_var 0) sa_nil)) (s_callB b_len B.len PySem.boot_len (sa_cons (s_var 1) sa_nil)))))) (sb_one (ss_ret s_bl)) sb_nil) (sb_cons (ss_for (si_range1 B.range (sa_cons (s_callB b_len B.len PySem.boot_len (sa_cons (s_var 1) sa_nil)) sa_nil)) (sG 2 sc__law_same) (sb_one (ss_if (st_not (st_val (s_def h__law_same hr (by omega) (sa_cons (s_ix (s_var 0) (s_var 2)) (sa_cons (s_ix (s_var 1) (s_var 2)) sa_nil))))) (sb_one (ss_ret s_bl)) sb_nil))) (sb_one (ss_ret s_bl)))) sb_nil) (sb_cons (ss_if (st_isN (s_var 1)) (sb_one (ss_ret (s_isN (s_var 0)))) sb_nil) (sb_cons (ss_if (st_val (s_isT B.isinstance B.bool boot_bool (s_var 1))) (sb_one (ss_ret (s_and (s_isT B.isinstance B.bool boot_bool (s_var 0)) (s_one (s_cmp (w_eq hr) (s_var 0) (s_var 1)))))) sb_nil) (sb_cons (ss_if (st_val (s_isT B.isinstance B.int boot_int (s_var 1))) (sb_one (ss_ret (s_and (s_isT B.isinstance B.int boot_int (s_var 0)) (s_and (s_not (s_isT B.isinstance B.bool boot_bool (s_var 0))) (s_one (s_cmp (w_eq hr) (s_var 0) (s_var 1))))))) sb_nil) (sb_one (ss_ret (s_and (s_isT B.isinstance B.str boot_str (s_var 0)) (s_one (s_cmp (w_eq hr) (s_var 0) (s_var 1)))))))))))
noncomputable def g__law_pool : FS := (xSeq (xSet 3 (eC (.str [65, 66, 67, 68, 69, 70, 71, 72, 73, 74, 75, 76, 77, 78, 79, 80, 81, 82, 83, 84, 85, 86, 87, 88, 89, 90, 97, 98, 99, 100, 101, 102, 103, 104, 105, 106, 107, 108, 109, 110, 111, 112, 113, 114, 115, 116, 117, 118, 119, 120, 121, 122]))) (xSeq (xSet 4 (eC (.str []))) (xSeq (xFor (itAny (eDef 3 f__law_draws (aCons (eVar 0) (aCons (eVar 1) (aCons (eVar 2) aNil))))) (gNm 5) (xSeq (xSet 6 (e2 wMod (eVar 5) (eCall bLen (aCons (eVar 3) aNil)))) (xSeq (xSet 4 (e2 wAdd (eVar 4) (e2 wIx (eVar 3) (eVar 6)))) (xSet 3 (e2 wAdd (eSl (eVar 3) oNone (oSome (eVar 6))) (eSl (eVar 3) (oSome (e2 wAdd (eVar 6) (eC (.int 1)))) oNone)))))) (xRet (eVar 4)))))
noncomputable def f__law_pool : List W → List Cell → R W := runF 7 g__law_pool
theorem ok__law_pool (F : Fun K "_law_pool" "_law_pool" s__law_pool f fd) (B : Bl mg) (h__law_draws : HasW P w K mg base 2 "_law_draws" 3 f__law_draws) : FnOk P w K mg base (CX1 P w) 3 f fd p__law_pool (spW K mg 3 f__law_pool) :=
  fnW_of (k := 2) F sc__law_pool rfl fun cdv A outer s H E hr => (sb_cons (sS 3 sc__law_pool s_str) (sb_cons (sS 4 sc__law_pool s_str) (sb_cons (ss_for (si_any (s_def h__law_draws hr (by omega) (sa_cons (s_var 0) (sa_cons (s_var 1) (sa_cons (s_var 2) sa_nil))))) (sG 5 sc__law_pool) (sb_cons (sS 6 sc__law_pool (s_op w_mod (s_var 5) (s_callB b_len B.len PySem.boot_len (sa_cons (s_var 3) sa_nil)))) (sb_cons (sS 4 sc__law_pool (s_op w_add (s_var 4) (s_ix (s_var 3) (s_var 6)))) (sb_one (sS 3 sc__law_pool (s_op w_add (s_sl (s_var 3) so_none (so_some (s_var 6))) (s_sl (s_var 3) (so_some (s_op w_add (s_var 6) s_int)) so_none))))))) (sb_one (ss_ret (s_var 4))))))
noncomputable def g__law_marks : FS := (xRet (eMS mJoin (eC (.str [])) (aCons (eCall bSortA (aCons (eComp [none, some 0, some 1] (itRange1 (aCons (eCall bLen (aCons (eVar 0) aNil)) aNil)) (gNm 0) (asB (e2 wEq (e2 wBand (e2 wShr (eVar 2) (eVar 0)) (eC (.int 1))) (eC (.int 1)))) (e2 wIx (eVar 1) (eVar 0))) aNil)) aNil)))
noncomputable def f__law_marks : List W → List Cell → R W := runF 2 g__law_marks
theorem ok__law_marks (F : Fun K "_law_marks" "_law_marks" s__law_marks f fd) (B : Bl mg)  : FnOk P w K mg base (CX1 P w) 1 f fd p__law_marks (spW K mg 2 f__law_marks) :=
  fnW_of (k := 0) F sc__law_marks rfl fun cdv A outer s H E hr => (sb_one (ss_ret (s_ms PySem.F.slot_str_join PySem.F.type_str_join m_joinW s_str (sa_cons (s_callB b_sortA B.sorted boot_sorted (sa_cons (s_comp (nm := ["_law_k", "_law_pool_here", "_law_number"]) (cap := [none, some 0, some 1]) (by first | rfl | kernel_rfl) rfl (si_range1 B.range (sa_cons (s_callB b_len B.len PySem.boot_len (sa_cons (s_var 0) sa_nil)) sa_nil)) (fun _ _ _ _ _ => (sC 0)) (fun _ _ _ _ _ => (sts_one (st_cmp (w_eq hr) (s_op w_band (s_op w_shr (s_var 2) (s_var 0)) s_int) s_int))) (fun _ _ _ _ _ => (s_ix (s_var 1) (s_var 0)))) sa_nil)) sa_nil))))
noncomputable def g__law_wood : FS := (xSeq (xSet 3 (eLst aNil)) (xSeq (xSet 4 (eC (.int 0))) (xSeq (xFor (itAny (eVar 0)) (gNm 5) (xSeq (xSet 6 (e2 wMod (eVar 5) (eC (.int 4)))) (xSeq (xIf (asB (e2 wGt (e2 wFdiv (e2 wAdd (eVar 6) (eC (.int 1))) (eC (.int 2))) (eVar 4))) (xSet 6 (eC (.int 0))) xNext) (xSeq (xIf (bnd (asB (e2 wGt (e2 wSub (e2 wAdd (e2 wAdd (eCall bLen (aCons (eVar 3) aNil)) (eVar 4)) (eC (.int 1))) (e2 wFdiv (e2 wAdd (eVar 6) (eC (.int 1))) (eC (.int 2)))) (eVar 2))) (asB (e2 wGt (eVar 4) (eC (.int 1))))) (xSet 6 (eC (.int 3))) xNext) (xSeq (xSet 7 (e2 wFdiv (e2 wAdd (eVar 6) (eC (.int 1))) (eC (.int 2)))) (xIf (asB (e2 wLeD (e2 wSub (e2 wAdd (e2 wAdd (eCall bLen (aCons (eVar 3) aNil)) (eVar 4)) (eC (.int 1))) (eVar 7)) (eVar 2))) (xSeq (xExpr (eML mAppend (eVar 3) (aCons (eTup (aCons (eVar 6) (aCons (eDef 2 f__law_marks (aCons (eVar 1) (aCons (e2 wMod (e2 wFdiv (eVar 5) (eC (.int 4))) (eC (.int 16))) aNil))) aNil))) aNil))) (xSet 4 (e2 wSub (e2 wAdd (eVar 4) (eC (.int 1))) (eVar 7)))) xNext)))))) (xSeq (xWhile (asB (e2 wGt (eVar 4) (eC (.int 1)))) (xSeq (xExpr (eML mAppend (eVar 3) (aCons (eTup (aCons (eC (.int 3)) (aCons (e2 wIx (e2 wIx (eVar 3) (e2 wSub (eVar 4) (eC (.int 1)))) (eC (.int 1))) aNil))) aNil))) (xSet 4 (e2 wSub (eVar 4) (eC (.int 1)))))) (xRet (eCall bTuple (aCons (eVar 3) aNil)))))))
noncomputable def f__law_wood : List W → List Cell → R W := runF 8 g__law_wood
theorem ok__law_wood (F : Fun K "_law_wood" "_law_wood" s__law_wood f fd) (B : Bl mg) (h__law_marks : HasW P w K mg base 1 "_law_marks" 2 f__law_marks) : FnOk P w K mg base (CX1 P w) 2 f fd p__law_wood (spW K mg 3 f__law_wood) :=
  fnW_of (k := 1) F sc__law_wood rfl fun cdv A outer s H E hr => (sb_cons (sS 3 sc__law_wood (s_lst sa_nil)) (sb_cons (sS 4 sc__law_wood s_int) (sb_cons (ss_for (si_any (s_var 0)) (sG 5 sc__law_wood) (sb_cons (sS 6 sc__law_wood (s_op w_mod (s_var 5) s_int)) (sb_cons (ss_if (st_cmp w_gt (s_op w_fdiv (s_op w_add (s_var 6) s_int) s_int) (s_var 4)) (sb_one (sS 6 sc__law_wood s_int)) sb_nil) (sb_cons (ss_if (st_w (sw_and (st_cmp w_gt (s_op w_sub (s_op w_add (s_op w_add (s_callB b_len B.len PySem.boot_len (sa_cons (s_var 3) sa_nil)) (s_var 4)) s_int) (s_op w_fdiv (s_op w_add (s_var 6) s_int) s_int)) (s_var 2)) (sw_and1 (st_cmp w_gt (s_var 4) s_int)))) (sb_one (sS 6 sc__law_wood s_int)) sb_nil) (sb_cons (sS 7 sc__law_wood (s_op w_fdiv (s_op w_add (s_var 6) s_int) s_int)) (sb_one (ss_if (st_cmp w_leD (s_op w_sub (s_op w_add (s_op w_add (s_callB b_len B.len PySem.boot_len (sa_cons (s_var 3) sa_nil)) (s_var 4)) s_int) (s_var 7)) (s_var 2)) (sb_cons (ss_expr (s_ml PySem.F.slot_list_append PySem.F.type_list_append m_appendW (s_var 3) (sa_cons (s_tup (sa_cons (s_var 6) (sa_cons (s_def h__law_marks hr (by omega) (sa_cons (s_var 1) (sa_cons (s_op w_mod (s_op w_fdiv (s_var 5) s_int) s_int) sa_nil))) sa_nil))) sa_nil))) (sb_one (sS 4 sc__law_wood (s_op w_sub (s_op w_add (s_var 4) s_int) (s_var 7))))) sb_nil))))))) (sb_cons (ss_while (st_cmp w_gt (s_var 4) s_int) (sb_cons (ss_expr (s_ml PySem.F.slot_list_append PySem.F.type_list_append m_appendW (s_var 3) (sa_cons (s_tup (sa_cons s_int (sa_cons (s_ix (s_ix (s_var 3) (s_op w_sub (s_var 4) s_int)) s_int) sa_nil))) sa_nil))) (sb_one (sS 4 sc__law_wood (s_op w_sub (s_var 4) s_int))))) (sb_one (ss_ret (s_callTy b_tuple B.tuple boot_tuple (sa_cons (s_var 3) sa_nil))))))))
noncomputable def g__law_sizes : FS := (xSeq (xSet 1 (eLst aNil)) (xSeq (xFor (itRange1 (aCons (eCall bLen (aCons (eVar 0) aNil)) aNil)) (gNm 2) (xSeq (xSet 3 (eC (.int 1))) (xSeq (xIf (asB (e2 wGe (e2 wIx (e2 wIx (eVar 0) (eVar 2)) (eC (.int 0))) (eC (.int 2)))) (xSet 3 (e2 wAdd (eVar 3) (e2 wIx (eVar 1) (e2 wSub (eVar 2) (eC (.int 1)))))) xNext) (xSeq (xIf (asB (e2 wEq (e2 wMod (e2 wIx (e2 wIx (eVar 0) (eVar 2)) (eC (.int 0))) (eC (.int 2))) (eC (.int 1)))) (xSet 3 (e2 wAdd (eVar 3) (e2 wIx (eVar 1) (e2 wSub (eVar 2) (eVar 3))))) xNext) (xExpr (eML mAppend (eVar 1) (aCons (eVar 3) aNil))))))) (xRet (eVar 1))))
noncomputable def f__law_sizes : List W → List Cell → R W := runF 4 g__law_sizes
theorem ok__law_sizes (F : Fun K "_law_sizes" "_law_sizes" s__law_sizes f fd) (B : Bl mg)  : FnOk P w K mg base (CX1 P w) 1 f fd p__law_sizes (spW K mg 1 f__law_sizes) :=
  fnW_of (k := 0) F sc__law_sizes rfl fun cdv A outer s H E hr => (sb_cons (sS 1 sc__law_sizes (s_lst sa_nil)) (sb_cons (ss_for (si_range1 B.range (sa_cons (s_callB b_len B.len PySem.boot_len (sa_cons (s_var 0) sa_nil)) sa_nil)) (sG 2 sc__law_sizes) (sb_cons (sS 3 sc__law_sizes s_int) (sb_cons (ss_if (st_cmp w_ge (s_ix (s_ix (s_var 0) (s_var 2)) s_int) s_int) (sb_one (sS 3 sc__law_sizes (s_op w_add (s_var 3) (s_ix (s_var 1) (s_op w_sub (s_var 2) s_int))))) sb_nil) (sb_cons (ss_if (st_cmp (w_eq hr) (s_op w_mod (s_ix (s_ix (s_var 0) (s_var 2)) s_int) s_int) s_int) (sb_one (sS 3 sc__law_sizes (s_op w_add (s_var 3) (s_ix (s_var 1) (s_op w_sub (s_var 2) (s_var 3)))))) sb_nil) (sb_one (ss_expr (s_ml PySem.F.slot_list_append PySem.F.type_list_append m_appendW (s_var 1) (sa_cons (s_var 3) sa_nil)))))))) (sb_one (ss_ret (s_var 1)))))
noncomputable def g__law_letters : FS := (xRet (eC (.str [65, 66, 67, 68, 69, 70, 71, 72, 73, 74, 75, 76, 77, 78, 79, 80, 81, 82, 83, 84, 85, 86, 87, 88, 89, 90, 97, 98, 99, 100, 101, 102, 103, 104, 105, 106, 107, 108, 109, 110, 111, 112, 113, 114, 115, 116, 117, 118, 119, 120, 121, 122])))
noncomputable def f__law_letters : List W → List Cell → R W := runF 0 g__law_letters
theorem ok__law_letters (F : Fun K "_law_letters" "_law_letters" s__law_letters f fd)   : FnOk P w K mg base (CX1 P w) 1 f fd p__law_letters (spW K mg 0 f__law_letters) :=
  fnW_of (k := 0) F sc__law_letters rfl fun cdv A outer s H E hr => (sb_one (ss_ret s_str))
noncomputable def g__law_weight : FS := (xSeq (xSet 1 (eC (.int 0))) (xSeq (xFor (itAny (eDef 0 f__law_letters aNil)) (gNm 2) (xSet 1 (e2 wAdd (e2 wMulA (eC (.int 2)) (eVar 1)) (eCall bInt (aCons (e2 (wIn false) (eVar 2) (eVar 0)) aNil))))) (xRet (eVar 1))))
noncomputable def f__law_weight : List W → List Cell → R W := runF 3 g__law_weight
theorem ok__law_weight (F : Fun K "_law_weight" "_law_weight" s__law_weight f fd) (B : Bl mg) (h__law_letters : HasW P w K mg base 1 "_law_letters" 0 f__law_letters) : FnOk P w K mg base (CX1 P w) 2 f fd p__law_weight (spW K mg 1 f__law_weight) :=
  fnW_of (k := 1) F sc__law_weight rfl fun cdv A outer s H E hr => (sb_cons (sS 1 sc__law_weight s_int) (sb_cons (ss_for (si_any (s_def0 h__law_letters hr (by omega))) (sG 2 sc__law_weight) (sb_one (sS 1 sc__law_weight (s_op w_add (s_op w_mulA s_int (s_var 1)) (s_callTy b_int B.int boot_int (sa_cons (s_cmp (w_in hr) (s_var 2) (s_var 0)) sa_nil)))))) (sb_one (ss_ret (s_var 1)))))
noncomputable def g__law_key : FS := (xSeq (xSet 1 (eLst (aCons (eLst (aCons (eC (.int 0)) aNil)) aNil))) (xSeq (xFor (itAny (eVar 0)) (gTp 2 (gsCons (gNm 2) (gsCons (gNm 3) gsNil))) (xSeq (xSet 4 (eLst (aCons (eC (.int 0)) aNil))) (xSeq (xSet 5 (eLst (aCons (eC (.int 0)) aNil))) (xSeq (xIf (asB (e2 wGe (eVar 2) (eC (.int 2)))) (xSet 4 (eML mPop (eVar 1) aNil)) xNext) (xSeq (xIf (asB (e2 wEq (e2 wMod (eVar 2) (eC (.int 2))) (eC (.int 1)))) (xSet 5 (eML mPop (eVar 1) aNil)) xNext) (xExpr (eML mAppend (eVar 1) (aCons (e2 wAdd (e2 wAdd (e2 wAdd (eLst (aCons (e2 wAdd (e2 wAdd (eC (.int 1)) (e2 wIx (eVar 5) (eC (.int 0)))) (e2 wIx (eVar 4) (eC (.int 0)))) aNil)) (eVar 5)) (eVar 4)) (eLst (aCons (eDef 1 f__law_weight (aCons (eVar 3) aNil)) aNil))) aNil)))))))) (xRet (e2 wIx (eVar 1) (eNeg (eC (.int 1)))))))
noncomputable def f__law_key : List W → List Cell → R W := runF 6 g__law_key
theorem ok__law_key (F : Fun K "_law_key" "_law_key" s__law_key f fd)  (h__law_weight : HasW P w K mg base 2 "_law_weight" 1 f__law_weight) : FnOk P w K mg base (CX1 P w) 3 f fd p__law_key (spW K mg 1 f__law_key) :=
  fnW_of (k := 2) F sc__law_key rfl fun cdv A outer s H E hr => (sb_cons (sS 1 sc__law_key (s_lst (sa_cons (s_lst (sa_cons s_int sa_nil)) sa_nil))) (sb_cons (ss_for (si_any (s_var 0)) (sg_tup rfl (sgs_cons (sG 2 sc__law_key) (sgs_cons (sG 3 sc__law_key) sgs_nil))) (sb_cons (sS 4 sc__law_key (s_lst (sa_cons s_int sa_nil))) (sb_cons (sS 5 sc__law_key (s_lst (sa_cons s_int sa_nil))) (sb_cons (ss_if (st_cmp w_ge (s_var 2) s_int) (sb_one (sS 4 sc__law_key (s_ml0 PySem.F.slot_list_pop PySem.F.type_list_pop m_popW (s_var 1)))) sb_nil) (sb_cons (ss_if (st_cmp (w_eq hr) (s_op w_mod (s_var 2) s_int) s_int) (sb_one (sS 5 sc__law_key (s_ml0 PySem.F.slot_list_pop PySem.F.type_list_pop m_popW (s_var 1)))) sb_nil) (sb_one (ss_expr (s_ml PySem.F.slot_list_append PySem.F.type_list_append m_appendW (s_var 1) (sa_cons (s_op w_add (s_op w_add (s_op w_add (s_lst (sa_cons (s_op w_add (s_op w_add s_int (s_ix (s_var 5) s_int)) (s_ix (s_var 4) s_int)) sa_nil)) (s_var 5)) (s_var 4)) (s_lst (sa_cons (s_def h__law_weight hr (by omega) (sa_cons (s_var 3) sa_nil)) sa_nil))) sa_nil))))))))) (sb_one (ss_ret (s_ix (s_var 1) (s_neg s_int))))))
noncomputable def g__law_marked : FS := (xSeq (xSet 3 (eDef 3 f__law_draws (aCons (eVar 1) (aCons (eC (.int 55)) (aCons (eVar 2) aNil))))) (xSeq (xIf (bor (asB (e2 wEq (eCall bLen (aCons (eVar 0) aNil)) (eC (.int 0)))) (asB (e2 wNe (e2 wMod (e2 wIx (eVar 3) (eC (.int 0))) (eC (.int 8))) (eC (.int 3))))) (xRet (eVar 0)) xNext) (xSeq (xSet 4 (e2 wMod (e2 wAdd (e2 wIx (eVar 3) (eC (.int 1))) (e2 wMulA (eC (.int 64)) (e2 wIx (eVar 3) (eC (.int 2))))) (eCall bLen (aCons (eVar 0) aNil)))) (xSeq (xSet 5 (eMS mJoin (eC (.str [])) (aCons (eComp [none, some 3] (itRange1 (aCons (eC (.int 52)) aNil)) (gNm 0) (asB (e2 wEq (e2 wMod (e2 wIx (eVar 1) (e2 wAdd (eC (.int 3)) (eVar 0))) (eC (.int 2))) (eC (.int 1)))) (e2 wIx (eDef 0 f__law_letters aNil) (eVar 0))) aNil))) (xRet (e2 wAdd (e2 wAdd (eSl (eVar 0) oNone (oSome (eVar 4))) (eTup (aCons (eTup (aCons (e2 wIx (e2 wIx (eVar 0) (eVar 4)) (eC (.int 0))) (aCons (eVar 5) aNil))) aNil))) (eSl (eVar 0) (oSome (e2 wAdd (eVar 4) (eC (.int 1)))) oNone)))))))
noncomputable def f__law_marked : List W → List Cell → R W := runF 6 g__law_marked
theorem ok__law_marked (F : Fun K "_law_marked" "_law_marked" s__law_marked f fd) (B : Bl mg) (h__law_draws : HasW P w K mg base 2 "_law_draws" 3 f__law_draws) (h__law_letters : HasW P w K mg base 1 "_law_letters" 0 f__law_letters) : FnOk P w K mg base (CX1 P w) 3 f fd p__law_marked (spW K mg 3 f__law_marked) :=
  fnW_of (k := 2) F sc__law_marked rfl fun cdv A outer s H E hr => (sb_cons (sS 3 sc__law_marked (s_def h__law_draws hr (by omega) (sa_cons (s_var 1) (sa_cons s_int (sa_cons (s_var 2) sa_nil))))) (sb_cons (ss_if (st_w (sw_or (st_cmp (w_eq hr) (s_callB b_len B.len PySem.boot_len (sa_cons (s_var 0) sa_nil)) s_int) (sw_or1 (st_cmp (w_ne hr) (s_op w_mod (s_ix (s_var 3) s_int) s_int) s_int)))) (sb_one (ss_ret (s_var 0))) sb_nil) (sb_cons (sS 4 sc__law_marked (s_op w_mod (s_op w_add (s_ix (s_var 3) s_int) (s_op w_mulA s_int (s_ix (s_var 3) s_int))) (s_callB b_len B.len PySem.boot_len (sa_cons (s_var 0) sa_nil)))) (sb_cons (sS 5 sc__law_marked (s_ms PySem.F.slot_str_join PySem.F.type_str_join m_joinW s_str (sa_cons (s_comp (nm := ["_law_k", "_law_draws_here"]) (cap := [none, some 3]) (by first | rfl | kernel_rfl) rfl (si_range1 B.range (sa_cons s_int sa_nil)) (fun _ _ _ _ _ => (sC 0)) (fun _ _ _ _ _ => (sts_one (st_cmp (w_eq hr) (s_op w_mod (s_ix (s_var 1) (s_op w_add s_int (s_var 0))) s_int) s_int))) (fun _ _ _ _ _ => (s_ix (s_def0 h__law_letters hr (by omega)) (s_var 0)))) sa_nil))) (sb_one (ss_ret (s_op w_add (s_op w_add (s_sl (s_var 0) so_none (so_some (s_var 4))) (s_tup (sa_cons (s_tup (sa_cons (s_ix (s_ix (s_var 0) (s_var 4)) s_int) (sa_cons (s_var 5) sa_nil))) sa_nil))) (s_sl (s_var 0) (so_some (s_op w_add (s_var 4) s_int)) so_none))))))))
noncomputable def g__law_near : FS := (xSeq (xIf (asB (e2 wEq (eCall bLen (aCons (eVar 0) aNil)) (eC (.int 0)))) (xRet (eVar 0)) xNext) (xSeq (xSet 3 (e2 wMod (e2 wAdd (e2 wIx (eVar 2) (eC (.int 1))) (e2 wMulA (eC (.int 64)) (e2 wIx (eVar 2) (eC (.int 2))))) (eCall bLen (aCons (eVar 0) aNil)))) (xSeq (xAsg (e2 wIx (eVar 0) (eVar 3)) (gTp 2 (gsCons (gNm 4) (gsCons (gNm 5) gsNil)))) (xSeq (xIf (asB (e2 wEq (e2 wMod (e2 wIx (eVar 2) (eC (.int 3))) (eC (.int 4))) (eC (.int 0)))) (xRet (e2 wAdd (e2 wAdd (eSl (eVar 0) oNone (oSome (eVar 3))) (eTup (aCons (eTup (aCons (eVar 4) (aCons (eDef 2 f__law_marks (aCons (eVar 1) (aCons (e2 wMod (e2 wIx (eVar 2) (eC (.int 4))) (eC (.int 16))) aNil))) aNil))) aNil))) (eSl (eVar 0) (oSome (e2 wAdd (eVar 3) (eC (.int 1)))) oNone))) xNext) (xSeq (xIf (bnd (asB (e2 wEq (e2 wMod (e2 wIx (eVar 2) (eC (.int 3))) (eC (.int 4))) (eC (.int 1)))) (asB (e2 (wIn false) (eVar 4) (eTup (aCons (eC (.int 1)) (aCons (eC (.int 2)) aNil)))))) (xRet (e2 wAdd (e2 wAdd (eSl (eVar 0) oNone (oSome (eVar 3))) (eTup (aCons (eTup (aCons (e2 wSub (eC (.int 3)) (eVar 4)) (aCons (eVar 5) aNil))) aNil))) (eSl (eVar 0) (oSome (e2 wAdd (eVar 3) (eC (.int 1)))) oNone))) xNext) (xSeq (xIf (bnd (asB (e2 wEq (e2 wMod (e2 wIx (eVar 2) (eC (.int 3))) (eC (.int 4))) (eC (.int 2)))) (asB (e2 wEq (eVar 4) (eC (.int 3))))) (xSeq (xSet 6 (eDef 1 f__law_sizes (aCons (eVar 0) aNil))) (xSeq (xSet 7 (e2 wSub (eVar 3) (e2 wIx (eVar 6) (e2 wSub (eVar 3) (eC (.int 1)))))) (xSeq (xSet 8 (e2 wSub (e2 wAdd (eVar 3) (eC (.int 1))) (e2 wIx (eVar 6) (eVar 3)))) (xSeq (xSet 9 (e2 wAdd (eSl (eVar 0) (oSome (eVar 7)) (oSome (eVar 3))) (eSl (eVar 0) (oSome (eVar 8)) (oSome (eVar 7))))) (xRet (e2 wAdd (e2 wAdd (eSl (eVar 0) oNone (oSome (eVar 8))) (eVar 9)) (eSl (eVar 0) (oSome (eVar 3)) oNone))))))) xNext) (xSeq (xIf (bnd (asB (e2 wEq (e2 wMod (e2 wIx (eVar 2) (eC (.int 3))) (eC (.int 4))) (eC (.int 3)))) (asB (e2 wGt (e2 wMod (e2 wIx (eVar 2) (eC (.int 4))) (eC (.int 4))) (eC (.int 0))))) (xSeq (xSet 10 (e2 wIx (eDef 0 f__law_letters aNil) (e2 wMod (e2 wIx (eVar 2) (eC (.int 5))) (eC (.int 52))))) (xSeq (xIf (asB (e2 (wIn false) (eVar 10) (eVar 5))) (xSet 5 (eRepl (eVar 5) (eVar 10))) (xSet 5 (eMS mJoin (eC (.str [])) (aCons (eCall bSortA (aCons (e2 wAdd (eVar 5) (eVar 10)) aNil)) aNil)))) (xRet (e2 wAdd (e2 wAdd (eSl (eVar 0) oNone (oSome (eVar 3))) (eTup (aCons (eTup (aCons (eVar 4) (aCons (eVar 5) aNil))) aNil))) (eSl (eVar 0) (oSome (e2 wAdd (eVar 3) (eC (.int 1)))) oNone))))) xNext) (xRet (eVar 0)))))))))
noncomputable def f__law_near : List W → List Cell → R W := runF 11 g__law_near
theorem ok__law_near (F : Fun K "_law_near" "_law_near" s__law_near f fd) (B : Bl mg) (h__law_letters : HasW P w K mg base 1 "_law_letters" 0 f__law_letters) (h__law_marks : HasW P w K mg base 1 "_law_marks" 2 f__law_marks) (h__law_sizes : HasW P w K mg base 1 "_law_sizes" 1 f__law_sizes) : FnOk P w K mg base (CX1 P w) 2 f fd p__law_near (spW K mg 3 f__law_near) :=
  fnW_of (k := 1) F sc__law_near rfl fun cdv A outer s H E hr => (sb_cons (ss_if (st_cmp (w_eq hr) (s_callB b_len B.len PySem.boot_len (sa_cons (s_var 0) sa_nil)) s_int) (sb_one (ss_ret (s_var 0))) sb_nil) (sb_cons (sS 3 sc__law_near (s_op w_mod (s_op w_add (s_ix (s_var 2) s_int) (s_op w_mulA s_int (s_ix (s_var 2) s_int))) (s_callB b_len B.len PySem.boot_len (sa_cons (s_var 0) sa_nil)))) (sb_cons (ss_asg (s_ix (s_var 0) (s_var 3)) (sg_tup rfl (sgs_cons (sG 4 sc__law_near) (sgs_cons (sG 5 sc__law_near) sgs_nil)))) (sb_cons (ss_if (st_cmp (w_eq hr) (s_op w_mod (s_ix (s_var 2) s_int) s_int) s_int) (sb_one (ss_ret (s_op w_add (s_op w_add (s_sl (s_var 0) so_none (so_some (s_var 3))) (s_tup (sa_cons (s_tup (sa_cons (s_var 4) (sa_cons (s_def h__law_marks hr (by omega) (sa_cons (s_var 1) (sa_cons (s_op w_mod (s_ix (s_var 2) s_int) s_int) sa_nil))) sa_nil))) sa_nil))) (s_sl (s_var 0) (so_some (s_op w_add (s_var 3) s_int)) so_none)))) sb_nil) (sb_cons (ss_if (st_w (sw_and (st_cmp (w_eq hr) (s_op w_mod (s_ix (s_var 2) s_int) s_int) s_int) (sw_and1 (st_cmp (w_in hr) (s_var 4) (s_tup (sa_cons s_int (sa_cons s_int sa_nil))))))) (sb_one (ss_ret (s_op w_add (s_op w_add (s_sl (s_var 0) so_none (so_some (s_var 3))) (s_tup (sa_cons (s_tup (sa_cons (s_op w_sub s_int (s_var 4)) (sa_cons (s_var 5) sa_nil))) sa_nil))) (s_sl (s_var 0) (so_some (s_op w_add (s_var 3) s_int)) so_none)))) sb_nil) (sb_cons (ss_if (st_w (sw_and (st_cmp (w_eq hr) (s_op w_mod (s_ix (s_var 2) s_int) s_int) s_int) (sw_and1 (st_cmp (w_eq hr) (s_var 4) s_int)))) (sb_cons (sS 6 sc__law_near (s_def h__law_sizes hr (by omega) (sa_cons (s_var 0) sa_nil))) (sb_cons (sS 7 sc__law_near (s_op w_sub (s_var 3) (s_ix (s_var 6) (s_op w_sub (s_var 3) s_int)))) (sb_cons (sS 8 sc__law_near (s_op w_sub (s_op w_add (s_var 3) s_int) (s_ix (s_var 6) (s_var 3)))) (sb_cons (sS 9 sc__law_near (s_op w_add (s_sl (s_var 0) (so_some (s_var 7)) (so_some (s_var 3))) (s_sl (s_var 0) (so_some (s_var 8)) (so_some (s_var 7))))) (sb_one (ss_ret (s_op w_add (s_op w_add (s_sl (s_var 0) so_none (so_some (s_var 8))) (s_var 9)) (s_sl (s_var 0) (so_some (s_var 3)) so_none)))))))) sb_nil) (sb_cons (ss_if (st_w (sw_and (st_cmp (w_eq hr) (s_op w_mod (s_ix (s_var 2) s_int) s_int) s_int) (sw_and1 (st_cmp w_gt (s_op w_mod (s_ix (s_var 2) s_int) s_int) s_int)))) (sb_cons (sS 10 sc__law_near (s_ix (s_def0 h__law_letters hr (by omega)) (s_op w_mod (s_ix (s_var 2) s_int) s_int))) (sb_cons (ss_if (st_cmp (w_in hr) (s_var 10) (s_var 5)) (sb_one (sS 5 sc__law_near (s_repl (s_var 5) (s_var 10)))) (sb_one (sS 5 sc__law_near (s_ms PySem.F.slot_str_join PySem.F.type_str_join m_joinW s_str (sa_cons (s_callB b_sortA B.sorted boot_sorted (sa_cons (s_op w_add (s_var 5) (s_var 10)) sa_nil)) sa_nil))))) (sb_one (ss_ret (s_op w_add (s_op w_add (s_sl (s_var 0) so_none (so_some (s_var 3))) (s_tup (sa_cons (s_tup (sa_cons (s_var 4) (sa_cons (s_var 5) sa_nil))) sa_nil))) (s_sl (s_var 0) (so_some (s_op w_add (s_var 3) s_int)) so_none)))))) sb_nil) (sb_one (ss_ret (s_var 0))))))))))
noncomputable def g_law : FS := (xSeq (xSet 1 (eDef 3 f__law_pool (aCons (eDef 2 f__law_cell (aCons (eVar 0) (aCons (eC (.int 0)) aNil))) (aCons (eC (.int 4)) (aCons (eC (.int 100003)) aNil))))) (xSeq (xSet 2 (eLst aNil)) (xSeq (xFor (itRange1 (aCons (eC (.int 3)) aNil)) (gNm 3) (xSeq (xSet 4 (eDef 3 f__law_size (aCons (eDef 2 f__law_cell (aCons (eVar 0) (aCons (e2 wAdd (e2 wMulA (eC (.int 3)) (eVar 3)) (eC (.int 2))) aNil))) (aCons (e2 wAdd (eC (.int 200017)) (e2 wMulA (eC (.int 20011)) (eVar 3))) (aCons (eC (.int 100)) aNil))))) (xSeq (xSet 5 (eDef 3 f__law_draws (aCons (eDef 2 f__law_cell (aCons (eVar 0) (aCons (e2 wAdd (e2 wMulA (eC (.int 3)) (eVar 3)) (eC (.int 1))) aNil))) (aCons (eVar 4) (aCons (e2 wAdd (eC (.int 310019)) (e2 wMulA (eC (.int 20011)) (eVar 3))) aNil))))) (xSeq (xSet 6 (eDef 3 f__law_draws (aCons (eDef 2 f__law_cell (aCons (eVar 0) (aCons (e2 wAdd (e2 wMulA (eC (.int 3)) (eVar 3)) (eC (.int 3))) aNil))) (aCons (eC (.int 6)) (aCons (e2 wAdd (eC (.int 400009)) (e2 wMulA (eC (.int 30011)) (eVar 3))) aNil))))) (xIf (bnd (asB (e2 wGt (eVar 3) (eC (.int 0)))) (asB (e2 wGt (e2 wMod (e2 wIx (eVar 6) (eC (.int 0))) (eC (.int 3))) (eC (.int 0))))) (xExpr (eML mAppend (eVar 2) (aCons (eDef 3 f__law_near (aCons (e2 wIx (eVar 2) (e2 wSub (eVar 3) (eC (.int 1)))) (aCons (eVar 1) (aCons (eVar 6) aNil)))) aNil))) (xExpr (eML mAppend (eVar 2) (aCons (eDef 3 f__law_marked (aCons (eDef 3 f__law_wood (aCons (eVar 5) (aCons (eVar 1) (aCons (eC (.int 100)) aNil)))) (aCons (eDef 2 f__law_cell (aCons (eVar 0) (aCons (e2 wAdd (eC (.int 10)) (eVar 3)) aNil))) (aCons (e2 wAdd (eC (.int 500009)) (e2 wMulA (eC (.int 40009)) (eVar 3))) aNil)))) aNil)))))))) (xSeq (xAsg (eComp [none] (itAny (eVar 2)) (gNm 0) fYes (eDef 1 f__law_key (aCons (eVar 0) aNil))) (gNm 7)) (xSeq (xFor (itRange1 (aCons (eC (.int 3)) aNil)) (gNm 3) (xFor (itRange1 (aCons (eC (.int 3)) aNil)) (gNm 8) (xIf (bnt (asB (eDef 2 (f__law_same 40) (aCons (eDef 2 f_comes_ahead (aCons (e2 wIx (eVar 2) (eVar 3)) (aCons (e2 wIx (eVar 2) (eVar 8)) aNil))) (aCons (e2 wLtL (e2 wIx (eVar 7) (eVar 3)) (e2 wIx (eVar 7) (eVar 8))) aNil))))) (xRet (eC (.bl false))) xNext))) (xRet (eC (.bl true))))))))
noncomputable def f_law : List W → List Cell → R W := runF 9 g_law
theorem ok_law (F : Fun K "law" "law" s_law f fd) (B : Bl mg) (h__law_cell : HasW P w K mg base 1 "_law_cell" 2 f__law_cell) (h__law_draws : HasW P w K mg base 2 "_law_draws" 3 f__law_draws) (h__law_key : HasW P w K mg base 3 "_law_key" 1 f__law_key) (h__law_marked : HasW P w K mg base 3 "_law_marked" 3 f__law_marked) (h__law_near : HasW P w K mg base 2 "_law_near" 3 f__law_near) (h__law_pool : HasW P w K mg base 3 "_law_pool" 3 f__law_pool) (h__law_same : HasW P w K mg base 40 "_law_same" 2 (f__law_same 40)) (h__law_size : HasW P w K mg base 3 "_law_size" 3 f__law_size) (h__law_wood : HasW P w K mg base 2 "_law_wood" 3 f__law_wood) (h_comes_ahead : HasW P w K mg base 3 "comes_ahead" 2 f_comes_ahead) : FnOk P w K mg base (CX1 P w) 41 f fd p_law (spW K mg 1 f_law) :=
  fnW_of (k := 40) F sc_law rfl fun cdv A outer s H E hr => (sb_cons (sS 1 sc_law (s_def h__law_pool hr (by omega) (sa_cons (s_def h__law_cell hr (by omega) (sa_cons (s_var 0) (sa_cons s_int sa_nil))) (sa_cons s_int (sa_cons s_int sa_nil))))) (sb_cons (sS 2 sc_law (s_lst sa_nil)) (sb_cons (ss_for (si_range1 B.range (sa_cons s_int sa_nil)) (sG 3 sc_law) (sb_cons (sS 4 sc_law (s_def h__law_size hr (by omega) (sa_cons (s_def h__law_cell hr (by omega) (sa_cons (s_var 0) (sa_cons (s_op w_add (s_op w_mulA s_int (s_var 3)) s_int) sa_nil))) (sa_cons (s_op w_add s_int (s_op w_mulA s_int (s_var 3))) (sa_cons s_int sa_nil))))) (sb_cons (sS 5 sc_law (s_def h__law_draws hr (by omega) (sa_cons (s_def h__law_cell hr (by omega) (sa_cons (s_var 0) (sa_cons (s_op w_add (s_op w_mulA s_int (s_var 3)) s_int) sa_nil))) (sa_cons (s_var 4) (sa_cons (s_op w_add s_int (s_op w_mulA s_int (s_var 3))) sa_nil))))) (sb_cons (sS 6 sc_law (s_def h__law_draws hr (by omega) (sa_cons (s_def h__law_cell hr (by omega) (sa_cons (s_var 0) (sa_cons (s_op w_add (s_op w_mulA s_int (s_var 3)) s_int) sa_nil))) (sa_cons s_int (sa_cons (s_op w_add s_int (s_op w_mulA s_int (s_var 3))) sa_nil))))) (sb_one (ss_if (st_w (sw_and (st_cmp w_gt (s_var 3) s_int) (sw_and1 (st_cmp w_gt (s_op w_mod (s_ix (s_var 6) s_int) s_int) s_int)))) (sb_one (ss_expr (s_ml PySem.F.slot_list_append PySem.F.type_list_append m_appendW (s_var 2) (sa_cons (s_def h__law_near hr (by omega) (sa_cons (s_ix (s_var 2) (s_op w_sub (s_var 3) s_int)) (sa_cons (s_var 1) (sa_cons (s_var 6) sa_nil)))) sa_nil)))) (sb_one (ss_expr (s_ml PySem.F.slot_list_append PySem.F.type_list_append m_appendW (s_var 2) (sa_cons (s_def h__law_marked hr (by omega) (sa_cons (s_def h__law_wood hr (by omega) (sa_cons (s_var 5) (sa_cons (s_var 1) (sa_cons s_int sa_nil)))) (sa_cons (s_def h__law_cell hr (by omega) (sa_cons (s_var 0) (sa_cons (s_op w_add s_int (s_var 3)) sa_nil))) (sa_cons (s_op w_add s_int (s_op w_mulA s_int (s_var 3))) sa_nil)))) sa_nil)))))))))) (sb_cons (ss_setComp (sG 7 sc_law) (m := 0) (nm := ["_law_tree"]) (cap := [none]) (by first | rfl | kernel_rfl) rfl (si_any (s_var 2)) (fun _ _ _ _ _ => (sC 0)) (fun _ _ _ _ _ => sts_nil) (fun _ _ _ _ _ => (s_def h__law_key hr (by omega) (sa_cons (s_var 0) sa_nil)))) (sb_cons (ss_for (si_range1 B.range (sa_cons s_int sa_nil)) (sG 3 sc_law) (sb_one (ss_for (si_range1 B.range (sa_cons s_int sa_nil)) (sG 8 sc_law) (sb_one (ss_if (st_not (st_val (s_def h__law_same hr (by omega) (sa_cons (s_def h_comes_ahead hr (by omega) (sa_cons (s_ix (s_var 2) (s_var 3)) (sa_cons (s_ix (s_var 2) (s_var 8)) sa_nil))) (sa_cons (s_cmp (w_ltL hr) (s_ix (s_var 7) (s_var 3)) (s_ix (s_var 7) (s_var 8))) sa_nil))))) (sb_one (ss_ret s_bl)) sb_nil))))) (sb_one (ss_ret s_bl)))))))
end
end P
set_option Elab.async false
set_option linter.all false
set_option maxRecDepth 100000
set_option maxHeartbeats 4000000
namespace P
open PySem L2
theorem mod_at {α : Type} (ns : List α) (hl : 0 < ns.length) (k : Int) : ∃ c ∈ ns, atI ns (k % ((ns.length : Nat) : Int)) = some c := by
  have h0 : 0 ≤ k % ((ns.length : Nat) : Int) := Int.emod_nonneg _ (by omega)
  have h1 : k % ((ns.length : Nat) : Int) < ns.length := Int.emod_lt_of_pos _ (by omega)
  obtain ⟨m, hm⟩ := Int.eq_ofNat_of_zero_le h0
  rw [hm] at h1 ⊢
  have h2 : m < ns.length := by omega
  exact ⟨ns[m], List.getElem_mem _, at_nat (by simp [h2])⟩
theorem cell_ok {n : Nat} {st : List Cell} {ns : List Int} (h : st[n]? = some (.ro (ns.map W.int))) (k : Int) : ∃ c, f__law_cell [.loc n, .int k] st = .ok (.int c) st := by
  by_cases hn : ns = []
  · subst hn
    refine ⟨0, ?_⟩
    apply runF_self; apply k_seqR; apply k_if_t
    · (repeat' (first | with_reducible exact o_lenL (lstOf_r h) | walk_at "ev1"))
    · (walk_at "evs")
  · have hl : 0 < ns.length := List.length_pos_iff.mpr hn
    obtain ⟨c, hc, e⟩ := mod_at (ns.map W.int) (by simpa using hl) k
    obtain ⟨c, _, rfl⟩ := List.mem_map.mp hc
    refine ⟨c, ?_⟩
    apply runF_self; apply k_seq
    · apply k_if_f
      · (repeat' (first | with_reducible exact o_lenL (lstOf_r h) | walk_at "ev1"))
        rw [beq_eq_false_iff_ne, List.length_map]; omega
      · (walk_at "evs")
    · (repeat' (first | with_reducible exact o_lenL (lstOf_r h) | with_reducible exact o_ixL (lstOf_r h) e | walk_at "ev1"))
      rw [List.length_map]; omega
theorem mixed_ok (c k s : Int) (hk : -(2 ^ 64) < k ∧ k < 2 ^ 64) (st : List Cell) : ∃ r, 0 ≤ r ∧ f__law_mixed [.int c, .int k, .int s] st = .ok (.int r) st := by
  have big : ∀ q : Int, 0 ≤ q % 2147483647 ∧ q % 2147483647 < 2147483647 := fun q => ⟨Int.emod_nonneg _ (by decide), Int.emod_lt_of_pos _ (by decide)⟩
  refine ⟨(((c + 7 * k * k + 13 * k + s) * 69621 % 2147483647 * ((c + 7 * k * k + 13 * k + s) * 69621 % 2147483647 / 1009 + 3) + 31 * k + s) % 2147483629 * 48271) % 1000000007, Int.emod_nonneg _ (by decide), ?_⟩
  apply runF_self; apply k_seq
  · (walk_at "evs") <;> first | exact .inl (by decide) | exact .inr (by decide) | exact .inr hk
  · (walk_at "evs") <;> first | exact .inl (by decide) | exact .inr (by decide) | exact .inl (by have := big ((c + 7 * k * k + 13 * k + s) * 69621); omega)
theorem draws_ok (c s : Int) (m : Nat) (hm : m ≤ 1000) (st : List Cell) : ∃ ds : List Int, ds.length = m ∧ (∀ d ∈ ds, 0 ≤ d) ∧ f__law_draws [.int c, .int m, .int s] st = .ok (.loc st.length) (st ++ [.lst (ds.map W.int)]) := by
  suffices hh : Sat (rtP fun w st' => ∃ j x, w = .loc (st.length + j) ∧ st' = st ++ x ∧ j = 0 ∧ ∃ ds : List Int, x = [.lst (ds.map W.int)] ∧ ds.length = m ∧ ∀ d ∈ ds, 0 ≤ d) (g__law_draws ([W.int c, .int m, .int s].map some ++ List.replicate (6 - 3) none) st) by
    obtain ⟨j, x, ⟨rfl, ds, rfl, h1, h2⟩, e⟩ := run_new hh
    exact ⟨ds, h1, h2, e⟩
  apply sat_seq
  · (walk_at "evs")
  apply sat_seq
  · (walk_at "evs")
  have main : ∀ r0 : Int, Sat (rtP fun w st' => ∃ j x, w = .loc (st.length + j) ∧ st' = st ++ x ∧ j = 0 ∧ ∃ ds : List Int, x = [.lst (ds.map W.int)] ∧ ds.length = m ∧ ∀ d ∈ ds, 0 ≤ d)
      (xSeq (xFor (itRange1 (aCons (eVar 1) aNil)) (gNm 5) (xIf (asB (e2 wGt (eVar 4) (eC (.int 0)))) (xSeq (xExpr (eML mAppend (eVar 3) (aCons (e2 wMod (eVar 4) (eC (.int 64))) aNil))) (xSet 4 (e2 wFdiv (eVar 4) (eC (.int 64))))) (xExpr (eML mAppend (eVar 3) (aCons (eDef 3 f__law_mixed (aCons (eVar 0) (aCons (eVar 5) (aCons (eVar 2) aNil)))) aNil))))) (xRet (eVar 3))
      [some (.int c), some (.int m), some (.int s), some (.loc st.length), some (.int r0), none] (st ++ [.lst []])) := by
    intro r0
    refine sat_for (fun i ρ st' => ∃ (r : Int) (o : Option W) (ds : List Int), ρ = [some (.int c), some (.int m), some (.int s), some (.loc st.length), some (.int r), o] ∧ st' = st ++ [.lst (ds.map W.int)] ∧ ds.length = i ∧ ∀ d ∈ ds, 0 ≤ d) (i_range1 (by (walk_at "evs"); rfl) (by omega))
      ⟨r0, none, [], rfl, rfl, rfl, by simp⟩ (fun _ _ _ _ => trivial) ?_ ?_
    · rintro i w ρ st' hw ⟨r, o, ds, rfl, rfl, hd, h⟩
      obtain ⟨hi, rfl⟩ := rangeW_at hw
      refine ⟨_, rfl, ?_⟩
      have hcell : (st ++ [Cell.lst (ds.map W.int)])[st.length]? = some (.lst (ds.map W.int)) := by rw [cell_at0]; rfl
      have hsh : (ds.map W.int).length < LIM := by rw [List.length_map, hd]; show i < 1000000; omega
      by_cases hr : 0 < r
      · apply sat_t
        · (walk_at "evs"); simpa using hr
        apply sat_seq
        · (repeat' (first | with_reducible exact k_isLst hcell | with_reducible exact o_app hcell hsh | walk_at "ev1"))
        rw [cell_set0]
        apply sat_eq
        · (walk_at "evs")
        · refine ⟨_, _, rfl, r / 64, _, ds ++ [r % 64], rfl, by simp, by simp [hd], fun d hd' => ?_⟩
          rcases List.mem_append.mp hd' with hd' | hd'
          · exact h d hd'
          · rw [List.mem_singleton.mp hd']; exact Int.emod_nonneg _ (by decide)
      · obtain ⟨q, hq, e⟩ := mixed_ok c (0 + i) s (by omega) (st ++ [Cell.lst (ds.map W.int)])
        apply sat_f
        · (walk_at "evs"); simpa using hr
        apply sat_eq
        · (repeat' (first | with_reducible exact k_isLst hcell | with_reducible exact o_app hcell hsh | with_reducible exact e | walk_at "ev1"))
        · refine ⟨_, _, rfl, r, _, ds ++ [q], rfl, by rw [cell_set0]; simp, by simp [hd], fun d hd' => ?_⟩
          rcases List.mem_append.mp hd' with hd' | hd'
          · exact h d hd'
          · rw [List.mem_singleton.mp hd']; exact hq
    · rintro ρ st' ⟨r, o, ds, rfl, rfl, hd, h⟩
      apply sat_ret
      · (walk_at "evs")
      · exact ⟨_, _, rfl, 0, _, rfl, rfl, rfl, ds, rfl, by rw [hd]; simpa using rangeW_len 0 m, h⟩
  by_cases hc : (10 : Int) ^ 18 ≤ c
  · apply sat_seq
    · apply k_if_t
      · (walk_at "evs") <;> simpa using hc
      · (walk_at "evs")
    · exact main c
  · apply sat_seq
    · apply k_if_f
      · (walk_at "evs") <;> simpa using hc
      · (walk_at "evs")
    · exact main 0
abbrev LL : List Nat := [65, 66, 67, 68, 69, 70, 71, 72, 73, 74, 75, 76, 77, 78, 79, 80, 81, 82, 83, 84, 85, 86, 87, 88, 89, 90, 97, 98, 99, 100, 101, 102, 103, 104, 105, 106, 107, 108, 109, 110, 111, 112, 113, 114, 115, 116, 117, 118, 119, 120, 121, 122]
theorem pool_ok (c s : Int) (m : Nat) (hm : m ≤ 50) (st : List Cell) : ∃ l : List Nat, l.length = m ∧ (∀ d ∈ l, d ∈ LL) ∧ f__law_pool [.int c, .int m, .int s] st = .ok (.str l) st := by
  suffices hh : Sat (rtP fun w st' => (∃ x, st' = st ++ x) ∧ undWs st.length [w] = true ∧ ∃ l : List Nat, w = .str l ∧ l.length = m ∧ ∀ d ∈ l, d ∈ LL) (g__law_pool ([W.int c, .int m, .int s].map some ++ List.replicate (7 - 3) none) st) by
    obtain ⟨w, ⟨l, rfl, h1, h2⟩, e⟩ := run_val hh
    exact ⟨l, h1, h2, e⟩
  obtain ⟨ds, h1, h2, e⟩ := draws_ok c s m (by omega) st
  apply sat_seq
  · (walk_at "evs")
  apply sat_seq
  · (walk_at "evs")
  have hcell : lstOf (st ++ [Cell.lst (ds.map W.int)]) st.length = some (ds.map W.int) := lstOf_l (by rw [cell_at0]; rfl)
  refine sat_for (fun i ρ st' => ∃ (r f : List Nat) (o o2 : Option W), ρ = [some (.int c), some (.int m), some (.int s), some (.str r), some (.str f), o, o2] ∧ st' = st ++ [.lst (ds.map W.int)] ∧ f.length = i ∧ r.length + i = 52 ∧ (∀ d ∈ r, d ∈ LL) ∧ ∀ d ∈ f, d ∈ LL) (i_any_l (by (repeat' (first | with_reducible exact e | walk_at "ev1"))) hcell)
    ⟨LL, [], none, none, rfl, rfl, rfl, rfl, fun _ h => h, by simp⟩ (fun i ρ st' h => ?_) ?_ ?_
  · obtain ⟨r, f, o, o2, rfl, rfl, _⟩ := h
    exact hcell
  · rintro i w ρ st' hw ⟨r, f, o, o2, rfl, rfl, hf, hr, hrl, hfl⟩
    obtain ⟨d, hd, rfl⟩ : ∃ d, ds[i]? = some d ∧ w = .int d := by
      simp only [List.getElem?_map, Option.map_eq_some_iff] at hw
      obtain ⟨d, h1, rfl⟩ := hw
      exact ⟨d, h1, rfl⟩
    have hi : i < m := by rw [← h1]; exact (List.getElem?_eq_some_iff.mp hd).1
    obtain ⟨q, hq, eq⟩ := mod_nat (q := d) (n := r.length) (by omega)
    have hL : r.length ≤ LIM := by show _ ≤ 1000000; omega
    have hLf : f.length ≤ LIM := by show _ ≤ 1000000; omega
    have hat : atI r (d % (r.length : Int)) = some r[q] := by rw [eq]; exact at_nat (by simp [hq])
    refine ⟨_, rfl, ?_⟩
    apply sat_seq
    · (repeat' (first | with_reducible exact o_lenS hL | walk_at "ev1"))
      show 0 < (r.length : Int); omega
    apply sat_seq
    · have ha : f.length + [r[q]].length ≤ LIM := by show _ + 1 ≤ 1000000; omega
      (repeat' (first | with_reducible exact o_ixS hL hat | with_reducible exact o_addS ha | walk_at "ev1"))
    apply sat_eq
    · (repeat' (first | with_reducible exact o_slS hL | walk_at "ev1"))
      rw [eq, cut_pre (by omega), show ((q : Int) + 1) = ((q + 1 : Nat) : Int) from rfl, cut_suf (by omega), List.length_take, List.length_drop]
      show _ ≤ 1000000; omega
    · refine ⟨_, _, rfl, _, _, _, _, rfl, rfl, by simp [hf], ?_, ?_, ?_⟩
      · rw [eq, cut_pre (by omega), show ((q : Int) + 1) = ((q + 1 : Nat) : Int) from rfl, cut_suf (by omega), List.length_append, List.length_take, List.length_drop]
        omega
      · intro d hd
        rw [eq, cut_pre (by omega), show ((q : Int) + 1) = ((q + 1 : Nat) : Int) from rfl, cut_suf (by omega)] at hd
        rcases List.mem_append.mp hd with hd | hd
        · exact hrl _ (List.mem_of_mem_take hd)
        · exact hrl _ (List.mem_of_mem_drop hd)
      · intro d hd
        rcases List.mem_append.mp hd with hd | hd
        · exact hfl _ hd
        · rw [List.mem_singleton.mp hd]; exact hrl _ (List.getElem_mem _)
  · rintro ρ st' ⟨r, f, o, o2, rfl, rfl, hf, hr, hrl, hfl⟩
    apply sat_ret
    · (walk_at "evs")
    · exact ⟨_, _, rfl, ⟨_, rfl⟩, rfl, f, rfl, by rw [hf]; simpa using h1, hfl⟩
end P
set_option Elab.async false
set_option linter.all false
set_option maxRecDepth 100000
set_option maxHeartbeats 4000000
namespace P
open PySem L2
/-! ### places, sizes, links -/
structure Pl where
  b : Nat
  m : List Nat
def Pl.w (p : Pl) : W := .tup [.int p.b, .str p.m]
def trW (t : List Pl) : W := .tup (t.map Pl.w)
/-- a place behind n others: the sizes of the parts that stand, its figure, the sizes behind it, its size, its links -/
inductive St (n : Nat) : List Nat → Nat → List Nat → Nat → Option Nat × Option Nat → Prop
  | z {S : List Nat} : St n S 0 (1 :: S) 1 (none, none)
  | l {a : Nat} {S : List Nat} : St n (a :: S) 1 ((1 + a) :: S) (1 + a) (some (n - 1), none)
  | r {a : Nat} {S : List Nat} : St n (a :: S) 2 ((1 + a) :: S) (1 + a) (none, some (n - 1))
  | b {c a : Nat} {S : List Nat} : St n (c :: a :: S) 3 ((1 + c + a) :: S) (1 + c + a) (some (n - 1 - c), some (n - 1))
inductive Gr : List Pl → List Nat → List Nat → List (Option Nat × Option Nat) → Prop
  | nil : Gr [] [] [] []
  | snoc {ps : List Pl} {S S' sz : List Nat} {lk : List (Option Nat × Option Nat)} {b k : Nat} {m : List Nat} {x : Option Nat × Option Nat} : Gr ps S sz lk → St ps.length S b S' k x → Gr (ps ++ [⟨b, m⟩]) S' (sz ++ [k]) (lk ++ [x])
def At (sz : List Nat) : List Nat → Nat → Prop
  | [], n => n = 0
  | a :: S, n => sz[n - 1]? = some a ∧ a ≤ n ∧ 1 ≤ a ∧ At sz S (n - a)
theorem At.app {sz x : List Nat} : ∀ {S : List Nat} {n : Nat}, n ≤ sz.length → At sz S n → At (sz ++ x) S n
  | [], _, _, h => h
  | a :: S, n, hn, ⟨h1, h2, h3, h4⟩ => ⟨by rw [List.getElem?_append_left (by omega)]; exact h1, h2, h3, At.app (by omega) h4⟩
theorem St.at' {n : Nat} {sz S S' : List Nat} {b k : Nat} {x : Option Nat × Option Nat} (h : St n S b S' k x) (hn : sz.length = n) (ha : At sz S n) : At (sz ++ [k]) S' (n + 1) := by
  have hk : (sz ++ [k])[n + 1 - 1]? = some k := by rw [Nat.add_sub_cancel, ← hn]; simp
  cases h with
  | z => exact ⟨hk, by omega, by omega, by rw [Nat.add_sub_cancel]; exact ha.app (by omega)⟩
  | @l a S => exact ⟨hk, by have := ha.2.1; omega, by omega, by rw [show n + 1 - (1 + a) = n - a by omega]; exact ha.2.2.2.app (by omega)⟩
  | @r a S => exact ⟨hk, by have := ha.2.1; omega, by omega, by rw [show n + 1 - (1 + a) = n - a by omega]; exact ha.2.2.2.app (by omega)⟩
  | @b c a S => exact ⟨hk, by have := ha.2.1; have := ha.2.2.2.2.1; omega, by omega, by rw [show n + 1 - (1 + c + a) = n - c - a by omega]; exact ha.2.2.2.2.2.2.app (by omega)⟩
theorem Gr.ok {ps : List Pl} {S sz : List Nat} {lk : List (Option Nat × Option Nat)} (h : Gr ps S sz lk) : sz.length = ps.length ∧ lk.length = ps.length ∧ At sz S ps.length := by
  induction h with
  | nil => exact ⟨rfl, rfl, rfl⟩
  | snoc _ hs ih =>
    obtain ⟨h1, h2, h3⟩ := ih
    exact ⟨by simp [h1], by simp [h2], by rw [List.length_append]; exact hs.at' h1 h3⟩
theorem Gr.step {ps : List Pl} {S sz : List Nat} {lk : List (Option Nat × Option Nat)} (h : Gr ps S sz lk) : ∀ i, i < ps.length → ∃ S1 S2 p k x, Gr (ps.take i) S1 (sz.take i) (lk.take i) ∧ ps[i]? = some p ∧ sz[i]? = some k ∧ lk[i]? = some x ∧ St i S1 p.b S2 k x ∧ Gr (ps.take (i + 1)) S2 (sz.take (i + 1)) (lk.take (i + 1)) := by
  induction h with
  | nil => intro i hi; simp at hi
  | @snoc ps S S' sz lk b k m x hg hs ih =>
    intro i hi
    obtain ⟨l1, l2, _⟩ := hg.ok
    by_cases e : i = ps.length
    · subst e
      refine ⟨S, S', ⟨b, m⟩, k, x, ?_, by simp, by rw [← l1]; simp, by rw [← l2]; simp, hs, ?_⟩
      · rw [List.take_left, ← l1, List.take_left]
        rw [l1, ← l2, List.take_left]; exact hg
      · rw [List.take_of_length_le (by simp), List.take_of_length_le (by simp [l1]), List.take_of_length_le (by simp [l2])]
        exact .snoc hg hs
    · have hi' : i < ps.length := by simp at hi; omega
      obtain ⟨S1, S2, p, k1, x1, g1, q1, q2, q3, hs1, g2⟩ := ih i hi'
      refine ⟨S1, S2, p, k1, x1, ?_, by rw [List.getElem?_append_left hi']; exact q1, by rw [List.getElem?_append_left (by omega)]; exact q2, by rw [List.getElem?_append_left (by omega)]; exact q3, hs1, ?_⟩
      · rw [List.take_append_of_le_length (by omega), List.take_append_of_le_length (by omega), List.take_append_of_le_length (by omega)]; exact g1
      · rw [List.take_append_of_le_length (by omega), List.take_append_of_le_length (by omega), List.take_append_of_le_length (by omega)]; exact g2
/-- the sizes of a place's two branches -/
theorem Gr.cut {ps : List Pl} {S sz : List Nat} {lk : List (Option Nat × Option Nat)} (h : Gr ps S sz lk) {i : Nat} (hi : i < ps.length) : ∃ (p : Pl) (L R : Nat), ps[i]? = some p ∧ sz[i]? = some (1 + L + R) ∧ L + R ≤ i ∧ p.b ≤ 3 ∧ (0 < L ↔ p.b % 2 = 1) ∧ (0 < R ↔ 2 ≤ p.b) ∧ (2 ≤ p.b → 1 ≤ i ∧ sz[i - 1]? = some R) := by
  obtain ⟨S1, S2, p, k, x, g1, q1, q2, q3, hs, _⟩ := h.step i hi
  obtain ⟨l1, l2, ha⟩ := g1.ok
  have hlen : (ps.take i).length = i := by rw [List.length_take]; omega
  rw [hlen] at ha
  obtain ⟨b, m⟩ := p
  have get : ∀ j a, 1 ≤ i → j = i - 1 → (sz.take i)[j]? = some a → sz[j]? = some a := fun j a hi1 hj e => by
    rw [List.getElem?_take_of_lt (by omega)] at e; exact e
  cases hs with
  | z => exact ⟨⟨0, m⟩, 0, 0, q1, q2, by omega, by simp, by simp, by simp, by simp⟩
  | @l a S =>
    have ha1 : (sz.take i)[i - 1]? = some a := ha.1
    have ha2 : a ≤ i := ha.2.1
    have ha3 : 1 ≤ a := ha.2.2.1
    exact ⟨⟨1, m⟩, a, 0, q1, q2, by omega, by simp, by simp; omega, by simp, by simp⟩
  | @r a S =>
    have ha1 : (sz.take i)[i - 1]? = some a := ha.1
    have ha2 : a ≤ i := ha.2.1
    have ha3 : 1 ≤ a := ha.2.2.1
    exact ⟨⟨2, m⟩, 0, a, q1, by rw [q2], by omega, by simp, by simp, by simp; omega, fun _ => ⟨by omega, get _ _ (by omega) rfl ha1⟩⟩
  | @b c a S =>
    have ha1 : (sz.take i)[i - 1]? = some c := ha.1
    have ha2 : c ≤ i := ha.2.1
    have ha3 : 1 ≤ c := ha.2.2.1
    have hb2 : a ≤ i - c := ha.2.2.2.2.1
    have hb3 : 1 ≤ a := ha.2.2.2.2.2.1
    exact ⟨⟨3, m⟩, a, c, q1, by rw [q2]; congr 1 <;> omega, by omega, by simp, by simp; omega, by simp; omega, fun _ => ⟨by omega, get _ _ (by omega) rfl ha1⟩⟩
/-! ### has_left, has_right -/
theorem in_13 {b : Nat} (h : b ≤ 3) (st : List Cell) : wIn false (.int b) (.tup [.int 1, .int 3]) st = .ok (.bl (decide (b % 2 = 1))) st := by
  obtain rfl | rfl | rfl | rfl : b = 0 ∨ b = 1 ∨ b = 2 ∨ b = 3 := by omega
  all_goals rfl
theorem in_23 {b : Nat} (h : b ≤ 3) (st : List Cell) : wIn false (.int b) (.tup [.int 2, .int 3]) st = .ok (.bl (decide (2 ≤ b))) st := by
  obtain rfl | rfl | rfl | rfl : b = 0 ∨ b = 1 ∨ b = 2 ∨ b = 3 := by omega
  all_goals rfl
theorem left_ok {p : Pl} (h : p.b ≤ 3) (st : List Cell) : f_has_left [p.w] st = .ok (.bl (decide (p.b % 2 = 1))) st := by
  have := in_13 h st
  have i0 : wIx p.w (.int 0) st = .ok (.int p.b) st := rfl
  apply run_self'
  apply sat_ret
  · (walk_at "evs")
  · exact ⟨_, _, rfl, rfl, rfl⟩
theorem right_ok {p : Pl} (h : p.b ≤ 3) (st : List Cell) : f_has_right [p.w] st = .ok (.bl (decide (2 ≤ p.b))) st := by
  have := in_23 h st
  have i0 : wIx p.w (.int 0) st = .ok (.int p.b) st := rfl
  apply run_self'
  apply sat_ret
  · (walk_at "evs")
  · exact ⟨_, _, rfl, rfl, rfl⟩
end P
set_option Elab.async false
set_option linter.all false
set_option maxRecDepth 100000
set_option maxHeartbeats 4000000
namespace P
open PySem L2
def inS' (l : List Nat) : List W := l.map fun k : Nat => W.int k
theorem At.le {sz : List Nat} : ∀ {S : List Nat} {n : Nat}, At sz S n → S.length ≤ n
  | [], _, _ => Nat.zero_le _
  | a :: S, n, ⟨_, h2, h3, h4⟩ => by have := At.le h4; simp; omega
section
variable {ps : List Pl} {S sz : List Nat} {lk : List (Option Nat × Option Nat)}
theorem und_ints (l : List Nat) (n : Nat) : undWs n (inS' l) = true := by
  unfold inS'
  induction l with
  | nil => rfl
  | cons x r ih => simp [undWs, W.und, ih]
theorem sz_ix {st : List Cell} {z : List Nat} {q a : Nat} (x : List Cell) (h : z[q]? = some a) : wIx (.loc st.length) (.int q) (st ++ .lst (inS' z) :: x) = .ok (.int a) (st ++ .lst (inS' z) :: x) :=
  o_ixL (lstOf_l (by rw [cell_at0]; rfl)) (at_nat (by unfold inS'; rw [List.getElem?_map, h]; rfl))
theorem sz_app {st : List Cell} {z : List Nat} (q : Nat) (hz : z.length < 1000) : mAppend (.loc st.length) [.int q] (st ++ [.lst (inS' z)]) = .ok .non (st ++ [.lst (inS' (z ++ [q]))]) := by
  have hc : (st ++ [Cell.lst (inS' z)])[st.length]? = some (.lst (inS' z)) := by rw [cell_at0]; rfl
  rw [o_app hc (by simp [inS']; show _ < 1000000; omega), cell_set0]
  simp [inS']
theorem tk1 {α : Type} {l : List α} {i : Nat} {x : α} (h : l[i]? = some x) : l.take (i + 1) = l.take i ++ [x] := by rw [List.take_add_one, h]; rfl
theorem lsizes_ok (h : Gr ps S sz lk) (hn : ps.length ≤ 900) (st : List Cell) : f__law_sizes [trW ps] st = .ok (.loc st.length) (st ++ [.lst (inS' sz)]) := by
  obtain ⟨l1, l2, _⟩ := h.ok
  have hh : Sat (rtP fun w st' => ∃ j x, w = .loc (st.length + j) ∧ st' = st ++ x ∧ j = 0 ∧ x = [.lst (inS' sz)]) (g__law_sizes ([trW ps].map some ++ List.replicate (4 - 1) none) st) := by
    apply sat_seq
    · (walk_at "evs")
    refine sat_for (fun i ρ st' => ∃ (o2 o3 : Option W), ρ = [some (trW ps), some (.loc st.length), o2, o3] ∧ st' = st ++ [.lst (inS' (sz.take i))] ∧ i ≤ ps.length)
      (i_range1 (q := ps.length) (st1 := st ++ [Cell.lst []]) (by show aCons (eCall bLen (aCons (eVar 0) aNil)) aNil _ _ = _; apply k_cons; (· apply k_call; (· (walk_at "evs")); (· show R.ok (W.int ((ps.map Pl.w).length : Nat)) _ = _; rw [List.length_map])); (· (walk_at "evs"))) (by omega)) ⟨none, none, rfl, rfl, Nat.zero_le _⟩ (fun _ _ _ _ => trivial) ?_ ?_
    · rintro i w ρ st' hw ⟨o2, o3, rfl, rfl, hi⟩
      obtain ⟨hi', rfl⟩ := rangeW_at hw
      have hip : i < ps.length := by simpa using hi'
      obtain ⟨S1, S2, p, k, x, g1, q1, q2, q3, hs, g2⟩ := h.step i hip
      obtain ⟨lz, ll, ha⟩ := g1.ok
      have hti : (ps.take i).length = i := by rw [List.length_take]; omega
      rw [hti] at ha lz
      have isl : isLst (st ++ [.lst (inS' (sz.take i))]) (.loc st.length) = true := k_isLst (by rw [cell_at0]; rfl)
      have ap := sz_app (st := st) (z := sz.take i) k (by omega)
      rw [← tk1 q2] at ap
      have it : ∀ st : List Cell, wIx (trW ps) (.int (0 + (i : Int))) st = .ok p.w st := fun st => o_ixT (by rw [Int.zero_add]; exact at_nat (by simp [q1]))
      have ib : ∀ st : List Cell, wIx p.w (.int 0) st = .ok (.int p.b) st := fun st => rfl
      have i1 := it (st ++ [.lst (inS' (sz.take i))])
      have i2 := ib (st ++ [.lst (inS' (sz.take i))])
      have fin : ∀ o2 o3 : Option W, nxP (fun ρ st' => ∃ (o2 o3 : Option W), ρ = [some (trW ps), some (.loc st.length), o2, o3] ∧ st' = st ++ [.lst (inS' (sz.take (i + 1)))] ∧ i + 1 ≤ ps.length) (.nx [some (trW ps), some (.loc st.length), o2, o3] (st ++ [.lst (inS' (sz.take (i + 1)))])) := fun o2 o3 => ⟨_, _, rfl, _, _, rfl, rfl, by omega⟩
      refine ⟨_, rfl, ?_⟩
      obtain ⟨b, m⟩ := p
      cases hs with
      | z =>
        rw [show ((1 : Nat) : Int) = 1 from rfl] at ap
        apply sat_seq
        · (walk_at "evs")
        apply sat_seq_f
        · (repeat' (first | with_reducible exact i1 | with_reducible exact i2 | walk_at "ev1"))
        apply sat_next
        apply sat_seq_f
        · (repeat' (first | with_reducible exact i1 | with_reducible exact i2 | walk_at "ev1"))
        apply sat_next
        apply sat_eq
        · (walk_at "evs")
        · exact fin _ _
      | @l a S =>
        rw [show ((1 + a : Nat) : Int) = 1 + (a : Int) by omega] at ap
        have x1 := sz_ix (st := st) [] ha.1
        have h1 : 1 ≤ i := by have := ha.2.1; have := ha.2.2.1; omega
        rw [show ((i - 1 : Nat) : Int) = 0 + (i : Int) - 1 by omega] at x1
        apply sat_seq
        · (walk_at "evs")
        apply sat_seq_f
        · (repeat' (first | with_reducible exact i1 | with_reducible exact i2 | walk_at "ev1"))
        apply sat_next
        apply sat_seq
        · apply k_if_t
          · (repeat' (first | with_reducible exact i1 | with_reducible exact i2 | walk_at "ev1"))
          · (walk_at "evs")
        apply sat_eq
        · (walk_at "evs")
        · exact fin _ _
      | @r a S =>
        rw [show ((1 + a : Nat) : Int) = 1 + (a : Int) by omega] at ap
        have m2 : (((Pl.mk 2 m).b : Int) % 2 == 1) = false := by show ((2 : Int) % 2 == 1) = false; decide
        have x1 := sz_ix (st := st) [] ha.1
        have h1 : 1 ≤ i := by have := ha.2.1; have := ha.2.2.1; omega
        rw [show ((i - 1 : Nat) : Int) = 0 + (i : Int) - 1 by omega] at x1
        apply sat_seq
        · (walk_at "evs")
        apply sat_seq
        · apply k_if_t
          · (repeat' (first | with_reducible exact i1 | with_reducible exact i2 | walk_at "ev1"))
          · (walk_at "evs")
        apply sat_seq_f
        · (repeat' (first | with_reducible exact i1 | with_reducible exact i2 | walk_at "ev1"))
        apply sat_next
        apply sat_eq
        · (walk_at "evs")
        · exact fin _ _
      | @b c a S =>
        rw [show ((1 + c + a : Nat) : Int) = 1 + (c : Int) + (a : Int) by omega] at ap
        have m3 : (((Pl.mk 3 m).b : Int) % 2 == 1) = true := by show ((3 : Int) % 2 == 1) = true; decide
        have x1 := sz_ix (st := st) [] ha.1
        have x2 := sz_ix (st := st) [] ha.2.2.2.1
        have h1 : 1 ≤ i := by have := ha.2.1; have := ha.2.2.1; omega
        have h2 : c + a ≤ i ∧ 1 ≤ a := by have := ha.2.1; have := ha.2.2.2.2.1; have := ha.2.2.2.2.2.1; omega
        rw [show ((i - 1 : Nat) : Int) = 0 + (i : Int) - 1 by omega] at x1
        rw [show ((i - c - 1 : Nat) : Int) = 0 + (i : Int) - (1 + (c : Int)) by omega] at x2
        apply sat_seq
        · (walk_at "evs")
        apply sat_seq
        · apply k_if_t
          · (repeat' (first | with_reducible exact i1 | with_reducible exact i2 | walk_at "ev1"))
          · (walk_at "evs")
        apply sat_seq
        · apply k_if_t
          · (repeat' (first | with_reducible exact i1 | with_reducible exact i2 | walk_at "ev1"))
          · (walk_at "evs")
        apply sat_eq
        · (walk_at "evs")
        · exact fin _ _
    · rintro ρ st' ⟨o2, o3, rfl, rfl, hi⟩
      apply sat_ret
      · (walk_at "evs")
      · refine ⟨_, _, rfl, 0, _, rfl, rfl, rfl, ?_⟩
        rw [show (rangeW 0 (ps.length : Int).toNat, (none : Option (Nat × List W))).1.length = ps.length from by simp [rangeW_len], List.take_of_length_le (by omega)]
  obtain ⟨j, x, ⟨rfl, rfl⟩, e⟩ := run_new hh
  exact e
end
structure Cut (ps : List Pl) (sz : List Nat) (q : Nat) (p : Pl) (L R : Nat) : Prop where
  hp : ps[q]? = some p
  hz : sz[q]? = some (1 + L + R)
  le : L + R ≤ q
  b3 : p.b ≤ 3
  hL : 0 < L ↔ p.b % 2 = 1
  hR : 0 < R ↔ 2 ≤ p.b
  hr : 2 ≤ p.b → 1 ≤ q ∧ sz[q - 1]? = some R
theorem Gr.cut' {ps : List Pl} {S sz : List Nat} {lk : List (Option Nat × Option Nat)} (h : Gr ps S sz lk) {i : Nat} (hi : i < ps.length) : ∃ (p : Pl) (L R : Nat), Cut ps sz i p L R := by
  obtain ⟨p, L, R, a, b, c, d, e, f, g⟩ := h.cut hi
  exact ⟨p, L, R, a, b, c, d, e, f, g⟩
theorem Cut.lt {ps : List Pl} {sz : List Nat} {q : Nat} {p : Pl} {L R : Nat} (c : Cut ps sz q p L R) : q < ps.length := (List.getElem?_eq_some_iff.mp c.hp).1
theorem und_tr (t : List Pl) (n : Nat) : (trW t).und n = true := by
  unfold trW W.und
  induction t with
  | nil => rfl
  | cons x r ih => simp only [List.map_cons, undWs, ih, Bool.and_true]; simp [Pl.w, W.und, undWs]
theorem tr_app (a b : List Pl) (h : (a ++ b).length ≤ 100000) (st : List Cell) : wAdd (trW a) (trW b) st = .ok (trW (a ++ b)) st := by
  unfold trW
  rw [o_addT (by rw [← List.map_append, List.length_map]; show _ ≤ 1000000; omega), ← List.map_append]
theorem tr_len (a : List Pl) (st : List Cell) : bLen [trW a] st = .ok (.int a.length) st := by
  unfold trW
  rw [o_lenT, List.length_map]
theorem tr_ix {a : List Pl} {q : Nat} {p : Pl} (h : a[q]? = some p) (st : List Cell) : wIx (trW a) (.int q) st = .ok p.w st := o_ixT (at_nat (by simp [h]))
theorem pl_m (p : Pl) (st : List Cell) : wIx p.w (.int 1) st = .ok (.str p.m) st := rfl
theorem pl_b (p : Pl) (st : List Cell) : wIx p.w (.int 0) st = .ok (.int p.b) st := rfl
theorem tr_pre {a : List Pl} {q : Nat} (h : q ≤ a.length) (st : List Cell) : wSl (trW a) none (some (q : Int)) st = .ok (trW (a.take q)) st := by
  unfold trW; rw [o_slT, cut_pre (by simpa using h), List.map_take]
theorem tr_suf {a : List Pl} {q : Nat} (h : q ≤ a.length) (st : List Cell) : wSl (trW a) (some (q : Int)) none st = .ok (trW (a.drop q)) st := by
  unfold trW; rw [o_slT, cut_suf (by simpa using h), List.map_drop]
theorem tr_cut {a : List Pl} {i j : Nat} (hj : j ≤ a.length) (hi : i ≤ j) (st : List Cell) : wSl (trW a) (some (i : Int)) (some (j : Int)) st = .ok (trW ((a.drop i).take (j - i))) st := by
  unfold trW; rw [o_slT, cut_nn (by simpa using hj) hi, List.map_take, List.map_drop]
theorem lsize_ok (c s : Int) (m : Nat) (hm : m ≤ 1000) (st : List Cell) : ∃ q : Nat, q ≤ m + 7 ∧ f__law_size [.int c, .int s, .int m] st = .ok (.int q) st := by
  suffices hh : Sat (rtP fun w st' => (∃ x, st' = st ++ x) ∧ undWs st.length [w] = true ∧ ∃ q : Nat, w = .int q ∧ q ≤ m + 7) (g__law_size ([W.int c, .int s, .int m].map some ++ List.replicate (5 - 3) none) st) by
    obtain ⟨w, ⟨q, rfl, h1⟩, e⟩ := run_val hh
    exact ⟨q, h1, e⟩
  obtain ⟨ds, hl, hp, e1⟩ := draws_ok c s 3 (by omega) st
  have e1 : f__law_draws [.int c, .int 3, .int s] st = _ := e1
  obtain ⟨d0, d1, d2, rfl⟩ : ∃ d0 d1 d2, ds = [d0, d1, d2] := by
    match ds, hl with
    | [d0, d1, d2], _ => exact ⟨_, _, _, rfl⟩
  have hc : (st ++ [Cell.lst ([d0, d1, d2].map W.int)])[st.length]? = some (.lst ([d0, d1, d2].map W.int)) := by rw [cell_at0]; rfl
  have i0 : wIx (.loc st.length) (.int 0) (st ++ [Cell.lst ([d0, d1, d2].map W.int)]) = .ok (.int d0) (st ++ [Cell.lst ([d0, d1, d2].map W.int)]) := o_ixL (lstOf_l hc) rfl
  have i1 : wIx (.loc st.length) (.int 1) (st ++ [Cell.lst ([d0, d1, d2].map W.int)]) = .ok (.int d1) (st ++ [Cell.lst ([d0, d1, d2].map W.int)]) := o_ixL (lstOf_l hc) rfl
  have i2 : wIx (.loc st.length) (.int 2) (st ++ [Cell.lst ([d0, d1, d2].map W.int)]) = .ok (.int d2) (st ++ [Cell.lst ([d0, d1, d2].map W.int)]) := o_ixL (lstOf_l hc) rfl
  apply sat_seq
  · (walk_at "evs")
  obtain ⟨q, hq, eq⟩ := mod_nat (q := d0 + 64 * d1) (n := m + 1) (by omega)
  have eq : (d0 + 64 * d1) % ((m : Int) + 1) = (q : Int) := eq
  have pm : (0 : Int) < (m : Int) + 1 := by omega
  have mm : cMul 64 d1 := .inl (by decide)
  apply sat_seq
  · (walk_at "evs")
    all_goals first | exact mm | exact pm
  rw [eq]
  by_cases h3 : d2 % 3 = 0
  · have t3 : (d2 % 3 == 0) = true := beq_iff_eq.mpr h3
    obtain ⟨q7, hq7, eq7⟩ := mod_nat (q := (q : Int)) (n := 7) (by omega)
    have eq7 : (q : Int) % 7 = (q7 : Int) := eq7
    apply sat_seq_t
    · (walk_at "evs")
    apply sat_seq_ret
    · (walk_at "evs")
    · exact ⟨_, _, rfl, ⟨_, rfl⟩, rfl, q7, by rw [eq7], by omega⟩
  · have t3 : (d2 % 3 == 0) = false := beq_eq_false_iff_ne.mpr h3
    apply sat_seq_f
    · (walk_at "evs")
    apply sat_next
    apply sat_ret
    · (walk_at "evs")
    · exact ⟨_, _, rfl, ⟨_, rfl⟩, rfl, q, rfl, by omega⟩
/-! ### marks -/
theorem o_sorted {st : List Cell} {n : Nat} {ls : List (List Nat)} (h : lstOf st n = some (ls.map W.str)) (hl : ls.length < 64) : bSorted [.loc n] st = .ok (.loc st.length) (st ++ [.lst ((sortT ls).map W.str)]) := by
  unfold bSorted
  simp only [h, ofO_some, strs?_map]
  rw [if_pos hl]
theorem sum_perm {a b : List (List Nat)} (h : a.Perm b) : (a.map List.length).sum = (b.map List.length).sum := by
  induction h with
  | nil => rfl
  | cons x _ ih => simp only [List.map_cons, List.sum_cons, ih]
  | swap x y l => simp only [List.map_cons, List.sum_cons]; omega
  | trans _ _ ih1 ih2 => rw [ih1, ih2]
def ixOf : W → Nat
  | .int i => i.toNat
  | _ => 0
theorem marks_ok (pool : List Nat) (hp : pool.length ≤ 50) (d : Int) (st : List Cell) : ∃ m : List Nat, m.length ≤ pool.length ∧ f__law_marks [.str pool, .int d] st = .ok (.str m) st := by
  let T : W → Bool := fun w => Builtin.bitAnd (d / 2 ^ (ixOf w)) 1 == 1
  let yl : W → List Nat := fun w => [pool.getD (ixOf w) 0]
  have hL : pool.length ≤ LIM := by show _ ≤ 1000000; omega
  obtain ⟨ls, hls⟩ : ∃ ls, ls = ((rangeW 0 pool.length).filter T).map yl := ⟨_, rfl⟩
  have hlen : ls.length ≤ pool.length := by
    rw [hls, List.length_map]
    refine Nat.le_trans (List.length_filter_le _ _) ?_
    rw [rangeW_len]; exact Nat.le_refl _
  have hone : ∀ x ∈ ls, x.length = 1 := by
    rw [hls]; intro x hx
    obtain ⟨w, _, rfl⟩ := List.mem_map.mp hx; rfl
  have hsum : ∀ l : List (List Nat), (∀ x ∈ l, x.length = 1) → (l.map List.length).sum = l.length := by
    intro l
    induction l with
    | nil => intro; rfl
    | cons x r ih =>
      intro h
      simp only [List.map_cons, List.sum_cons, List.length_cons]
      rw [h x (by simp), ih fun y hy => h y (by simp [hy])]; omega
  have hc : eComp [none, some 0, some 1] (itRange1 (aCons (eCall bLen (aCons (eVar 0) aNil)) aNil)) (gNm 0) (asB (e2 wEq (e2 wBand (e2 wShr (eVar 2) (eVar 0)) (eC (.int 1))) (eC (.int 1)))) (e2 wIx (eVar 1) (eVar 0)) [some (.str pool), some (.int d)] st = .ok (.loc st.length) (st ++ [.lst (ls.map W.str)]) := by
    have := k_comp (fi := itRange1 (aCons (eCall bLen (aCons (eVar 0) aNil)) aNil)) (f := gNm 0) (t := asB (e2 wEq (e2 wBand (e2 wShr (eVar 2) (eVar 0)) (eC (.int 1))) (eC (.int 1)))) (el := e2 wIx (eVar 1) (eVar 0)) (cap := [none, some 0, some 1]) (ρ := [some (.str pool), some (.int d)]) (st := st) (st1 := st) (ws := rangeW 0 pool.length) (ck := none) T (fun w => .str (yl w))
      (by
        have := i_range1 (fs := aCons (eCall bLen (aCons (eVar 0) aNil)) aNil) (ρ := [some (.str pool), some (.int d)]) (st := st) (st1 := st) (q := (pool.length : Int)) (k_cons (k_call kn (o_lenS hL)) k_nil) (by omega)
        rw [Int.toNat_natCast] at this
        exact this) (by rw [rangeW_len]; show _ ≤ 1000000; omega) trivial ?_
    · rw [this, hls, List.map_map]; rfl
    · intro w hw
      obtain ⟨i, hi, rfl⟩ := range_mem hw
      have ei : ixOf (.int (0 + (i : Int))) = i := by simp [ixOf]
      refine ⟨[some (.int (0 + (i : Int))), some (.str pool), some (.int d)], rfl, ?_, fun _ => ?_⟩
      · have h0 : (0 : Int) ≤ 0 + (i : Int) := by omega
        have hk : (Builtin.bitAnd (d / 2 ^ (0 + (i : Int)).toNat) 1 == 1) = T (.int (0 + (i : Int))) := rfl
        exact k_asB (k_2 (k_2 (k_2 kv kv (o_II h0)) k_C (o_II trivial)) k_C (o_eqI hk))
      · refine k_2 kv kv ?_
        rw [show ((0 : Int) + (i : Int)) = (i : Int) by omega]
        have e2 : atI pool (i : Int) = some (pool.getD i 0) := at_nat (by rw [List.getD_eq_getElem?_getD, List.getElem?_eq_getElem hi]; rfl)
        rw [o_ixS hL e2]
        simp [yl, ixOf]
  have hcell : lstOf (st ++ [Cell.lst (ls.map W.str)]) st.length = some (ls.map W.str) := lstOf_l (by rw [cell_at0]; rfl)
  have hs : bSortA [.loc st.length] (st ++ [Cell.lst (ls.map W.str)]) = _ := o_sorted hcell (by omega)
  have hcell2 : lstOf (st ++ [Cell.lst (ls.map W.str)] ++ [Cell.lst ((sortT ls).map W.str)]) (st ++ [Cell.lst (ls.map W.str)]).length = some ((sortT ls).map W.str) := lstOf_l (by rw [cell_at0]; rfl)
  have hsl : (sortT ls).length = ls.length := (sortT_perm ls).length_eq
  have hss : ((sortT ls).map List.length).sum = ls.length := by rw [sum_perm (sortT_perm ls), hsum ls hone]
  have hj := o_join (sep := []) hcell2 (by rw [hss]; show _ ≤ 1000000; simp; omega)
  refine ⟨joinN [] (sortT ls), ?_, ?_⟩
  · rw [joinN_nil, List.length_flatten, hss]; omega
  · refine run_is (N := 2) (ws := [.str pool, .int d]) (body := g__law_marks) ?_ rfl
    apply sat_ret
    · exact k_ms k_C rfl (k_cons (k_call (k_cons hc k_nil) hs) k_nil) hj
    · exact ⟨_, _, rfl, rfl, _, by rw [List.append_assoc]⟩
theorem St.ex {n b : Nat} {S : List Nat} (hb : b ≤ 3) (h : (b + 1) / 2 ≤ S.length) : ∃ S' k x, St n S b S' k x ∧ S'.length + (b + 1) / 2 = S.length + 1 := by
  obtain rfl | rfl | rfl | rfl : b = 0 ∨ b = 1 ∨ b = 2 ∨ b = 3 := by omega
  · exact ⟨_, _, _, .z, by simp⟩
  · match S, h with
    | a :: S, _ => exact ⟨_, _, _, .l, by simp⟩
  · match S, h with
    | a :: S, _ => exact ⟨_, _, _, .r, by simp⟩
  · match S, h with
    | c :: a :: S, _ => exact ⟨_, _, _, .b, by simp⟩
    | [_], hz => simp at hz
    | [], hz => simp at hz
theorem wood_ok {st : List Cell} {nd : Nat} {ds : List Int} {pool : List Nat} (hd : st[nd]? = some (.lst (ds.map W.int))) (hds : ∀ d ∈ ds, 0 ≤ d) (hp : pool.length ≤ 50) :
    ∃ (ps : List Pl) (S sz : List Nat) (lk : List (Option Nat × Option Nat)), Gr ps S sz lk ∧ ps.length ≤ 100 ∧ S.length ≤ 1 ∧ (∀ p ∈ ps, p.m.length ≤ pool.length) ∧ f__law_wood [.loc nd, .str pool, .int 100] st = .ok (trW ps) st := by
  suffices hh : Sat (rtP fun w st' => (∃ x, st' = st ++ x) ∧ undWs st.length [w] = true ∧ ∃ (ps : List Pl) (S sz : List Nat) (lk : List (Option Nat × Option Nat)), w = trW ps ∧ Gr ps S sz lk ∧ ps.length ≤ 100 ∧ S.length ≤ 1 ∧ ∀ p ∈ ps, p.m.length ≤ pool.length) (g__law_wood ([W.loc nd, .str pool, .int 100].map some ++ List.replicate (8 - 3) none) st) by
    obtain ⟨w, ⟨ps, S, sz, lk, rfl, h1, h2, h3, h4⟩, e⟩ := run_val hh
    exact ⟨ps, S, sz, lk, h1, h2, h3, h4, e⟩
  apply sat_seq
  · (walk_at "evs")
  apply sat_seq
  · (walk_at "evs")
  have hcell : ∀ A : List W, lstOf (st ++ [Cell.lst A]) nd = some (ds.map W.int) := fun A => lstOf_l (cell_old hd)
  refine sat_for (fun i ρ st' => ∃ (ps : List Pl) (S sz : List Nat) (lk : List (Option Nat × Option Nat)) (o5 o6 o7 : Option W), ρ = [some (.loc nd), some (.str pool), some (.int 100), some (.loc st.length), some (.int S.length), o5, o6, o7] ∧ st' = st ++ [.lst (ps.map Pl.w)] ∧ Gr ps S sz lk ∧ ps.length + S.length ≤ 101 ∧ ∀ p ∈ ps, p.m.length ≤ pool.length) (i_any_l (st1 := st ++ [Cell.lst []]) (by (walk_at "evs")) (hcell []))
    ⟨[], [], [], [], none, none, none, rfl, rfl, .nil, by simp, by simp⟩ (fun i ρ st' h => ?_) ?_ ?_
  · obtain ⟨ps, S, sz, lk, o5, o6, o7, rfl, rfl, _⟩ := h
    exact hcell _
  · rintro i w ρ st' hw ⟨ps, S, sz, lk, o5, o6, o7, rfl, rfl, hg, hle, hmm⟩
    obtain ⟨d, hdd, rfl⟩ : ∃ d, ds[i]? = some d ∧ w = .int d := by
      simp only [List.getElem?_map, Option.map_eq_some_iff] at hw
      obtain ⟨d, h1, rfl⟩ := hw
      exact ⟨d, h1, rfl⟩
    have hd0 := hds d (List.mem_of_getElem? hdd)
    refine ⟨_, rfl, ?_⟩
    have hc : (st ++ [Cell.lst (ps.map Pl.w)])[st.length]? = some (.lst (ps.map Pl.w)) := by rw [cell_at0]; rfl
    have hlen := o_lenL (lstOf_l hc)
    rw [List.length_map] at hlen
    obtain ⟨b0, hb0, eb0⟩ := mod_nat (q := d) (n := 4) (by omega)
    have eb0 : d % 4 = (b0 : Int) := eb0
    apply sat_seq
    · (walk_at "evs")
    rw [eb0]
    refine sat_cut (fun ρ st' => ∃ b : Nat, b ≤ 3 ∧ (b + 1) / 2 ≤ S.length ∧ ρ = [some (.loc nd), some (.str pool), some (.int 100), some (.loc st.length), some (.int S.length), some (.int d), some (.int b), o7] ∧ st' = st ++ [.lst (ps.map Pl.w)]) ?_ ?_
    · by_cases h1 : S.length < (b0 + 1) / 2
      · have t1 : decide ((S.length : Int) < ((b0 : Int) + 1) / 2) = true := decide_eq_true (by omega)
        apply sat_t
        · (walk_at "evs")
        apply sat_eq
        · (walk_at "evs")
        · exact ⟨_, _, rfl, 0, by omega, by omega, rfl, rfl⟩
      · have t1 : decide ((S.length : Int) < ((b0 : Int) + 1) / 2) = false := decide_eq_false (by omega)
        apply sat_f
        · (walk_at "evs")
        apply sat_eq
        · (walk_at "evs")
        · exact ⟨_, _, rfl, b0, by omega, by omega, rfl, rfl⟩
    rintro ρ st' ⟨b1, hb1, hs1, rfl, rfl⟩
    refine sat_cut (fun ρ st' => ∃ b : Nat, b ≤ 3 ∧ (b + 1) / 2 ≤ S.length ∧ ρ = [some (.loc nd), some (.str pool), some (.int 100), some (.loc st.length), some (.int S.length), some (.int d), some (.int b), o7] ∧ st' = st ++ [.lst (ps.map Pl.w)]) ?_ ?_
    · by_cases h1 : (100 : Int) < (ps.length : Int) + (S.length : Int) + 1 - ((b1 : Int) + 1) / 2
      · have t1 : decide ((100 : Int) < (ps.length : Int) + (S.length : Int) + 1 - ((b1 : Int) + 1) / 2) = true := decide_eq_true h1
        by_cases h2 : 1 < S.length
        · have t2 : decide ((1 : Int) < (S.length : Int)) = true := decide_eq_true (by omega)
          apply sat_t
          · apply k_bnd_t
            · (walk_at "evs")
            · (walk_at "evs")
          apply sat_eq
          · (walk_at "evs")
          · exact ⟨_, _, rfl, 3, by omega, by omega, rfl, rfl⟩
        · have t2 : decide ((1 : Int) < (S.length : Int)) = false := decide_eq_false (by omega)
          apply sat_f
          · apply k_bnd_t
            · (walk_at "evs")
            · (walk_at "evs")
          apply sat_eq
          · (walk_at "evs")
          · exact ⟨_, _, rfl, b1, hb1, hs1, rfl, rfl⟩
      · have t1 : decide ((100 : Int) < (ps.length : Int) + (S.length : Int) + 1 - ((b1 : Int) + 1) / 2) = false := decide_eq_false h1
        apply sat_f
        · apply k_bnd_f
          (walk_at "evs")
        apply sat_eq
        · (walk_at "evs")
        · exact ⟨_, _, rfl, b1, hb1, hs1, rfl, rfl⟩
    rintro ρ st' ⟨b2, hb2, hs2, rfl, rfl⟩
    apply sat_seq
    · (walk_at "evs")
    obtain ⟨S', k, x, hst, hlen'⟩ := St.ex (n := ps.length) hb2 hs2
    by_cases h1 : (ps.length : Int) + (S.length : Int) + 1 - ((b2 : Int) + 1) / 2 ≤ 100
    · have t1 : decide ((ps.length : Int) + (S.length : Int) + 1 - ((b2 : Int) + 1) / 2 ≤ 100) = true := decide_eq_true h1
      obtain ⟨m, hm, em⟩ := marks_ok pool hp (d / 4 % 16) (st ++ [Cell.lst (ps.map Pl.w)])
      have ap := o_app (y := (Pl.mk b2 m).w) hc (by rw [List.length_map]; show _ < 1000000; omega)
      rw [cell_set0] at ap
      have ap : mAppend (.loc st.length) [.tup [.int b2, .str m]] (st ++ [Cell.lst (ps.map Pl.w)]) = _ := ap
      have isl := k_isLst hc
      apply sat_t
      · (walk_at "evs")
      apply sat_seq
      · (walk_at "evs")
      apply sat_eq
      · (walk_at "evs")
      · rw [show (S.length : Int) + 1 - ((b2 : Int) + 1) / 2 = (S'.length : Int) by omega]
        exact ⟨_, _, rfl, ps ++ [⟨b2, m⟩], S', sz ++ [k], lk ++ [x], _, _, _, rfl, by simp, .snoc hg hst, by simp; omega, fun p hp' => (List.mem_append.mp hp').elim (hmm p) fun q => by rw [List.mem_singleton.mp q]; exact hm⟩
    · have t1 : decide ((ps.length : Int) + (S.length : Int) + 1 - ((b2 : Int) + 1) / 2 ≤ 100) = false := decide_eq_false h1
      apply sat_f
      · (walk_at "evs")
      apply sat_eq
      · (walk_at "evs")
      · exact ⟨_, _, rfl, ps, S, sz, lk, _, _, _, rfl, rfl, hg, hle, hmm⟩
  · rintro ρ st' ⟨ps, S, sz, lk, o5, o6, o7, rfl, rfl, hg, hle, hmm⟩
    refine sat_while (fun n ρ st' => ∃ (ps : List Pl) (S sz : List Nat) (lk : List (Option Nat × Option Nat)), ρ = [some (.loc nd), some (.str pool), some (.int 100), some (.loc st.length), some (.int S.length), o5, o6, o7] ∧ st' = st ++ [.lst (ps.map Pl.w)] ∧ Gr ps S sz lk ∧ ps.length + S.length ≤ 101 ∧ S.length = n ∧ ∀ p ∈ ps, p.m.length ≤ pool.length) S.length ⟨ps, S, sz, lk, rfl, rfl, hg, hle, rfl, hmm⟩ ?_ ?_
    · rintro n ρ st' ⟨ps, S, sz, lk, rfl, rfl, hg, hle, rfl, hmm⟩
      by_cases h1 : 1 < S.length
      · right
        have t1 : decide ((1 : Int) < (S.length : Int)) = true := decide_eq_true (by omega)
        constructor
        · (walk_at "evs")
        obtain ⟨l1, l2, ha⟩ := hg.ok
        have hSle := ha.le
        obtain ⟨S', k, x, hst, hlen'⟩ := St.ex (n := ps.length) (b := 3) (S := S) (by omega) (by omega)
        have hc : (st ++ [Cell.lst (ps.map Pl.w)])[st.length]? = some (.lst (ps.map Pl.w)) := by rw [cell_at0]; rfl
        obtain ⟨p, hpp⟩ : ∃ p, ps[S.length - 1]? = some p := ⟨ps[S.length - 1]'(by omega), by simp⟩
        have i1 : wIx (.loc st.length) (.int ((S.length : Int) - 1)) (st ++ [Cell.lst (ps.map Pl.w)]) = .ok p.w (st ++ [Cell.lst (ps.map Pl.w)]) := by
          rw [show (S.length : Int) - 1 = ((S.length - 1 : Nat) : Int) by omega]
          exact o_ixL (lstOf_l hc) (at_nat (by simp [hpp]))
        have i2 := pl_m p (st ++ [Cell.lst (ps.map Pl.w)])
        have ap := o_app (y := (Pl.mk 3 p.m).w) hc (by rw [List.length_map]; show _ < 1000000; omega)
        rw [cell_set0] at ap
        have ap : mAppend (.loc st.length) [.tup [.int 3, .str p.m]] (st ++ [Cell.lst (ps.map Pl.w)]) = _ := ap
        have isl := k_isLst hc
        apply sat_seq
        · (walk_at "evs")
        apply sat_eq
        · (walk_at "evs")
        · rw [show (S.length : Int) - 1 = (S'.length : Int) by omega]
          exact ⟨_, _, rfl, S'.length, by omega, ps ++ [⟨3, p.m⟩], S', sz ++ [k], lk ++ [x], rfl, by simp, .snoc hg hst, by simp; omega, rfl, fun p' hp' => (List.mem_append.mp hp').elim (hmm p') fun q => by rw [List.mem_singleton.mp q]; exact hmm p (List.mem_of_getElem? hpp)⟩
      · left
        have t1 : decide ((1 : Int) < (S.length : Int)) = false := decide_eq_false (by omega)
        (walk_at "evs")
    · rintro n ρ st' ⟨ps, S, sz, lk, rfl, rfl, hg, hle, rfl, hmm⟩ ht
      have hS1 : S.length ≤ 1 := by
        by_cases h1 : 1 < S.length
        · exfalso
          have t1 : decide ((1 : Int) < (S.length : Int)) = true := decide_eq_true (by omega)
          have : asB (e2 wGt (eVar 4) (eC (.int 1))) [some (.loc nd), some (.str pool), some (.int 100), some (.loc st.length), some (.int S.length), o5, o6, o7] (st ++ [.lst (ps.map Pl.w)]) = .ok true (st ++ [.lst (ps.map Pl.w)]) := by (walk_at "evs")
          rw [this] at ht; cases ht
        · omega
      obtain ⟨l1, l2, ha⟩ := hg.ok
      have hc : (st ++ [Cell.lst (ps.map Pl.w)])[st.length]? = some (.lst (ps.map Pl.w)) := by rw [cell_at0]; rfl
      have h100 : ps.length ≤ 100 := by
        cases S with
        | nil => have : ps.length = 0 := ha; omega
        | cons a S => simp at hle; omega
      apply sat_ret
      · (repeat' (first | with_reducible exact o_tupL (lstOf_l hc) | walk_at "ev1"))
      · exact ⟨_, _, rfl, ⟨_, rfl⟩, by simp only [undWs, Bool.and_true]; exact und_tr ps _, ps, S, sz, lk, rfl, hg, h100, hS1, hmm⟩
theorem same_bool (b : Bool) (k : Nat) (st : List Cell) : f__law_same (k + 1) [.bl b, .bl b] st = .ok (.bl true) st := by
  have hb : wEq (.bl b) (.bl b) st = .ok (.bl true) st := o_eqB (by simp)
  refine run_is (N := 3) (ws := [.bl b, .bl b]) (body := g__law_same (f__law_same k)) ?_ rfl
  apply sat_seq_f
  · (walk_at "evs")
  apply sat_next
  apply sat_seq_f
  · (walk_at "evs")
  apply sat_next
  apply sat_seq_t
  · (walk_at "evs")
  apply sat_seq_ret
  · apply k_and_t
    · (walk_at "evs")
    · (walk_at "evs")
  · exact ⟨_, _, rfl, rfl, [], by simp⟩
end P
set_option Elab.async false
set_option linter.all false
set_option maxRecDepth 100000
set_option maxHeartbeats 4000000
namespace P
open PySem L2
theorem o_inS {c : Nat} {l : List Nat} {st : List Cell} : wIn false (.str [c]) (.str l) st = .ok (.bl (decide (c ∈ l))) st := rfl
theorem i_any_s {fe : FE} {ρ : EnvW} {st st1 : List Cell} {l : List Nat} (h : fe ρ st = .ok (.str l) st1) : itAny fe ρ st = .ok (signsW l, none) st1 := by unfold itAny; rw [h]; rfl
theorem signs_at {l : List Nat} {i : Nat} {w : W} (h : (signsW l)[i]? = some w) : ∃ c, l[i]? = some c ∧ w = .str [c] := by
  simp only [signsW, List.getElem?_map, Option.map_eq_some_iff] at h
  obtain ⟨c, h1, rfl⟩ := h
  exact ⟨c, h1, rfl⟩
theorem signs_len (l : List Nat) : (signsW l).length = l.length := by simp [signsW]
theorem take_snoc {α : Type} {l : List α} {i : Nat} {c : α} (h : l[i]? = some c) : l.take (i + 1) = l.take i ++ [c] := by
  rw [List.take_succ, h]; rfl
/-! ### the number of marks -/
def numF (m : List Nat) (l : List Nat) : Nat := l.foldl (fun a c => 2 * a + if c ∈ m then 1 else 0) 0
theorem numF_snoc (m l : List Nat) (c : Nat) : numF m (l ++ [c]) = 2 * numF m l + if c ∈ m then 1 else 0 := by unfold numF; rw [List.foldl_append]; rfl
theorem letter_ok (names m : List Nat) (st : List Cell) : f_letter_of [.str names, .str m] st = .ok (.int (numF m names : Nat)) st := by
  refine run_is (N := 4) (ws := [.str names, .str m]) (body := g_letter_of) ?_ rfl
  apply sat_seq
  · (walk_at "evs")
  refine sat_for (fun i ρ s => ∃ o3 : Option W, ρ = [some (.str names), some (.str m), some (.int (numF m (names.take i) : Nat)), o3] ∧ s = st) (i_any_s (st1 := st) kv) ⟨none, rfl, rfl⟩ (fun _ _ _ _ => trivial) ?_ ?_
  · rintro i w ρ s hw ⟨o3, rfl, rfl⟩
    obtain ⟨c, hc, rfl⟩ := signs_at hw
    refine ⟨_, rfl, ?_⟩
    have e := numF_snoc m (names.take i) c
    rw [← take_snoc hc] at e
    apply sat_seq
    · exact k_set (k_2 kv k_C (o_mulI (.inr (by decide))))
    by_cases h : c ∈ m
    · have t1 : decide (c ∈ m) = true := decide_eq_true h
      rw [if_pos h] at e
      apply sat_t
      · exact k_asB (k_2 kv kv (by rw [o_inS, t1]))
      apply sat_eq
      · exact k_set (k_2 kv k_C o_addI)
      · exact ⟨_, _, rfl, _, by rw [e, Int.natCast_add, Int.natCast_mul, Int.mul_comm]; rfl, rfl⟩
    · have t1 : decide (c ∈ m) = false := decide_eq_false h
      rw [if_neg h] at e
      apply sat_f
      · exact k_asB (k_2 kv kv (by rw [o_inS, t1]))
      apply sat_eq
      · exact k_next
      · exact ⟨_, _, rfl, _, by rw [e, Int.natCast_add, Int.natCast_mul, Int.mul_comm]; rfl, rfl⟩
  · rintro ρ s ⟨o3, rfl, rfl⟩
    apply sat_ret
    · (walk_at "evs")
    · exact ⟨_, _, rfl, by rw [show (signsW names, (none : Option (Nat × List W))).fst.length = names.length from signs_len names, List.take_length], [], by simp⟩
def dpt (ps : List Pl) : Nat := ps.foldl (fun d p => d + 1 - (p.b + 1) / 2) 0
theorem dpt_snoc (ps : List Pl) (p : Pl) : dpt (ps ++ [p]) = dpt ps + 1 - (p.b + 1) / 2 := by unfold dpt; rw [List.foldl_append]; rfl
theorem dpt_le (ps : List Pl) : dpt ps ≤ ps.length := by
  have key : ∀ (ps : List Pl) (d : Nat), ps.foldl (fun d p => d + 1 - (p.b + 1) / 2) d ≤ d + ps.length := by
    intro ps
    induction ps with
    | nil => intro d; exact Nat.le_refl _
    | cons p r ih =>
      intro d
      have := ih (d + 1 - (p.b + 1) / 2)
      rw [List.foldl_cons, List.length_cons]; omega
  have := key ps 0
  rw [Nat.zero_add] at this; exact this
/-- each place finds its branches on the stack -/
def Wk0 (ps : List Pl) : Prop := ∀ i p, ps[i]? = some p → p.b ≤ 3 ∧ (p.b + 1) / 2 ≤ dpt (ps.take i)
theorem Wk0.snoc {ps : List Pl} {b : Nat} {m : List Nat} (h : Wk0 ps) (h1 : b ≤ 3) (h2 : (b + 1) / 2 ≤ dpt ps) : Wk0 (ps ++ [⟨b, m⟩]) := fun i p e => by
  rcases Nat.lt_or_ge i ps.length with z | z
  · rw [List.getElem?_append_left z] at e
    rw [List.take_append_of_le_length (by omega)]; exact h i p e
  · have : i = ps.length := by have := (List.getElem?_eq_some_iff.mp e).1; rw [List.length_append, List.length_singleton] at this; omega
    subst this
    rw [List.getElem?_concat_length] at e
    cases e
    rw [List.take_left]; exact ⟨h1, h2⟩
theorem Wk0.pre {ps : List Pl} {p : Pl} (h : Wk0 (ps ++ [p])) : Wk0 ps ∧ p.b ≤ 3 ∧ (p.b + 1) / 2 ≤ dpt ps := by
  refine ⟨fun i q e => ?_, ?_⟩
  · have hi := (List.getElem?_eq_some_iff.mp e).1
    have := h i q (by rw [List.getElem?_append_left hi]; exact e)
    rw [List.take_append_of_le_length (by omega)] at this
    exact this
  · have := h ps.length p (by simp)
    rw [List.take_left] at this
    exact this
theorem gr_wk {ps : List Pl} {S sz : List Nat} {lk : List (Option Nat × Option Nat)} (h : Gr ps S sz lk) : Wk0 ps ∧ dpt ps = S.length := by
  induction h with
  | nil => exact ⟨fun i p e => by simp at e, rfl⟩
  | snoc _ hs ih =>
    obtain ⟨h1, h2⟩ := ih
    cases hs with
    | z => exact ⟨h1.snoc (by omega) (by omega), by rw [dpt_snoc, h2]; simp⟩
    | l => exact ⟨h1.snoc (by omega) (by rw [h2]; simp), by rw [dpt_snoc, h2]; simp⟩
    | r => exact ⟨h1.snoc (by omega) (by rw [h2]; simp), by rw [dpt_snoc, h2]; simp⟩
    | b => exact ⟨h1.snoc (by omega) (by rw [h2]; simp), by rw [dpt_snoc, h2]; simp⟩
theorem wk_gr : ∀ (n : Nat) (ps : List Pl), ps.length = n → Wk0 ps → ∃ S sz lk, Gr ps S sz lk ∧ S.length = dpt ps
  | 0, ps, hn, _ => by
    have : ps = [] := List.length_eq_zero_iff.mp hn
    subst this
    exact ⟨[], [], [], .nil, rfl⟩
  | n + 1, ps, hn, h => by
    obtain ⟨l, p, rfl⟩ : ∃ l p, ps = l ++ [p] := ⟨ps.dropLast, ps.getLast (by intro z; rw [z] at hn; simp at hn), (List.dropLast_concat_getLast _).symm⟩
    obtain ⟨h1, h2, h3⟩ := h.pre
    obtain ⟨S, sz, lk, g, e⟩ := wk_gr n l (by simpa using hn) h1
    obtain ⟨S', k, x, hs, hl⟩ := St.ex (n := l.length) (S := S) h2 (by omega)
    exact ⟨S', _, _, .snoc (m := p.m) g hs, by rw [dpt_snoc]; omega⟩
/-! ### keys -/
abbrev wt (m : List Nat) : Int := (numF m LL : Nat)
def key (l r : List Int) (m : List Nat) : List Int := [l.headD 0 + r.headD 0 + 1] ++ l ++ r ++ [wt m]
def pushK (S : List (List Int)) (p : Pl) : List (List Int) := match p.b, S with
  | 0, S => key [0] [0] p.m :: S
  | 1, l :: S => key l [0] p.m :: S
  | 2, r :: S => key [0] r p.m :: S
  | 3, r :: l :: S => key l r p.m :: S
  | _, S => S
def kst (ps : List Pl) : List (List Int) := ps.foldl pushK []
theorem kst_snoc (ps : List Pl) (p : Pl) : kst (ps ++ [p]) = pushK (kst ps) p := by unfold kst; rw [List.foldl_append]; rfl
/-- what a place takes from the stack: left, right, the rest -/
def Pp (b : Nat) (S : List (List Int)) (l r : List Int) (S0 : List (List Int)) : Prop := (b = 0 ∧ l = [0] ∧ r = [0] ∧ S = S0) ∨ (b = 1 ∧ r = [0] ∧ S = l :: S0) ∨ (b = 2 ∧ l = [0] ∧ S = r :: S0) ∨ (b = 3 ∧ S = r :: l :: S0)
theorem pp_of {b : Nat} {S : List (List Int)} (h : b ≤ 3) (h2 : (b + 1) / 2 ≤ S.length) : ∃ l r S0, Pp b S l r S0 ∧ S0.length + (b + 1) / 2 = S.length := by
  obtain rfl | rfl | rfl | rfl : b = 0 ∨ b = 1 ∨ b = 2 ∨ b = 3 := by omega
  · exact ⟨[0], [0], S, .inl ⟨rfl, rfl, rfl, rfl⟩, by simp⟩
  · cases S with
    | nil => simp at h2
    | cons a S => exact ⟨a, [0], S, .inr (.inl ⟨rfl, rfl, rfl⟩), by simp⟩
  · cases S with
    | nil => simp at h2
    | cons a S => exact ⟨[0], a, S, .inr (.inr (.inl ⟨rfl, rfl, rfl⟩)), by simp⟩
  · cases S with
    | nil => simp at h2
    | cons a S =>
      cases S with
      | nil => simp at h2
      | cons c S => exact ⟨c, a, S, .inr (.inr (.inr ⟨rfl, rfl⟩)), by simp⟩
theorem push_pp {p : Pl} {S S0 : List (List Int)} {l r : List Int} (h : Pp p.b S l r S0) : pushK S p = key l r p.m :: S0 := by
  obtain ⟨b, m⟩ := p
  rcases h with ⟨h, rfl, rfl, rfl⟩ | ⟨h, rfl, rfl⟩ | ⟨h, rfl, rfl⟩ | ⟨h, rfl⟩ <;> (have h : b = _ := h; subst h; rfl)
theorem Pp.more {b : Nat} {S S0 : List (List Int)} {l r : List Int} (h : Pp b S l r S0) (B : List (List Int)) : Pp b (S ++ B) l r (S0 ++ B) := by
  rcases h with ⟨h, rfl, rfl, rfl⟩ | ⟨h, rfl, rfl⟩ | ⟨h, rfl, rfl⟩ | ⟨h, rfl⟩
  · exact .inl ⟨h, rfl, rfl, rfl⟩
  · exact .inr (.inl ⟨h, rfl, rfl⟩)
  · exact .inr (.inr (.inl ⟨h, rfl, rfl⟩))
  · exact .inr (.inr (.inr ⟨h, rfl⟩))
def tot (S : List (List Int)) : Nat := (S.map List.length).sum
theorem tot_cons (k : List Int) (S : List (List Int)) : tot (k :: S) = k.length + tot S := rfl
theorem key_len (l r : List Int) (m : List Nat) : (key l r m).length = l.length + r.length + 2 := by unfold key; simp; omega
theorem pp_tot {b : Nat} {S S0 : List (List Int)} {l r : List Int} (h : Pp b S l r S0) : l.length + r.length + tot S0 ≤ tot S + 2 := by
  rcases h with ⟨h, rfl, rfl, rfl⟩ | ⟨h, rfl, rfl⟩ | ⟨h, rfl, rfl⟩ | ⟨h, rfl⟩ <;> simp [tot] <;> omega
theorem kst_ok {ps : List Pl} (h : Wk0 ps) : ∀ i, i ≤ ps.length → (kst (ps.take i)).length = dpt (ps.take i) ∧ tot (kst (ps.take i)) ≤ 4 * i
  | 0, _ => by simp [kst, dpt, tot]
  | i + 1, hi => by
    obtain ⟨p, hp⟩ : ∃ p, ps[i]? = some p := ⟨_, List.getElem?_eq_getElem (by omega)⟩
    obtain ⟨h1, h2⟩ := kst_ok h i (by omega)
    obtain ⟨b3, hb⟩ := h i p hp
    obtain ⟨l, r, S0, q, hl⟩ := pp_of (S := kst (ps.take i)) b3 (by omega)
    have ht := pp_tot q
    rw [take_snoc hp, kst_snoc, dpt_snoc, push_pp q, List.length_cons, tot_cons, key_len]
    omega
/-! ### the stack of keys in cells -/
structure KI (z : List Cell) (L : Nat) (T : List (List Int)) (qs : List Nat) : Prop where
  cell : z[L]? = some (.lst (qs.reverse.map W.loc))
  len : qs.length = T.length
  at' : ∀ (j q : Nat) (k : List Int), qs[j]? = some q → T[j]? = some k → q ≠ L ∧ z[q]? = some (.lst (k.map W.int))
/-- all but the cell L is kept -/
def Kp1 (L : Nat) (z z' : List Cell) : Prop := ∀ (i : Nat) (c : Cell), z[i]? = some c → i ≠ L → z'[i]? = some c
theorem Kp1.trans {L : Nat} {z z1 z2 : List Cell} (a : Kp1 L z z1) (b : Kp1 L z1 z2) : Kp1 L z z2 := fun i c e h => b i c (a i c e h) h
theorem Kp1.app {L : Nat} {z x : List Cell} : Kp1 L z (z ++ x) := fun i c e _ => cell_old e
theorem Kp1.set {L : Nat} {z : List Cell} {d : Cell} : Kp1 L z (z.set L d) := fun i c e h => by rw [List.getElem?_set_ne (Ne.symm h)]; exact e
theorem set_same {z : List Cell} {L : Nat} {c d : Cell} (h : z[L]? = some c) : (z.set L d)[L]? = some d := List.getElem?_set_self (List.getElem?_eq_some_iff.mp h).1
theorem KI.app {z x : List Cell} {L : Nat} {T : List (List Int)} {qs : List Nat} (h : KI z L T qs) : KI (z ++ x) L T qs := ⟨cell_old h.cell, h.len, fun j q k a b => ⟨(h.at' j q k a b).1, cell_old (h.at' j q k a b).2⟩⟩
theorem KI.pop {z : List Cell} {L q : Nat} {k : List Int} {T : List (List Int)} {qs : List Nat} (h : KI z L (k :: T) (q :: qs)) : mPop (.loc L) [] z = .ok (.loc q) (z.set L (.lst (qs.reverse.map W.loc))) ∧ KI (z.set L (.lst (qs.reverse.map W.loc))) L T qs ∧ (z.set L (.lst (qs.reverse.map W.loc)))[q]? = some (.lst (k.map W.int)) := by
  have hc := h.cell
  rw [List.reverse_cons, List.map_append] at hc
  obtain ⟨n0, e0⟩ := h.at' 0 q k rfl rfl
  refine ⟨o_pop hc, ⟨set_same hc, Nat.succ.inj h.len, fun j q' k' a b => ?_⟩, Kp1.set _ _ e0 n0⟩
  obtain ⟨n1, e1⟩ := h.at' (j + 1) q' k' a b
  exact ⟨n1, Kp1.set _ _ e1 n1⟩
theorem KI.push {z : List Cell} {L q : Nat} {k : List Int} {T : List (List Int)} {qs : List Nat} (h : KI z L T qs) (hq : q ≠ L) (e : z[q]? = some (.lst (k.map W.int))) (hl : qs.length < 1000) : mAppend (.loc L) [.loc q] z = .ok .non (z.set L (.lst ((q :: qs).reverse.map W.loc))) ∧ KI (z.set L (.lst ((q :: qs).reverse.map W.loc))) L (k :: T) (q :: qs) := by
  have e1 : (q :: qs).reverse.map W.loc = qs.reverse.map W.loc ++ [.loc q] := by simp
  refine ⟨?_, ⟨set_same h.cell, by simp [h.len], fun j q' k' a b => ?_⟩⟩
  · rw [e1]; exact o_app h.cell (by rw [List.length_map, List.length_reverse]; show _ < 1000000; omega)
  · cases j with
    | zero => cases a; cases b; exact ⟨hq, Kp1.set _ _ e hq⟩
    | succ j =>
      obtain ⟨n1, e2⟩ := h.at' j q' k' a b
      exact ⟨n1, Kp1.set _ _ e2 n1⟩
/-- [h] + left + right + [w] -/
theorem cat_ok {fx fw : FE} {ρ : EnvW} {z : List Cell} {i j a b : Nat} {l r : List Int} {hd w : Int} (h1 : fx ρ z = .ok (.int hd) z) (h2 : ∀ z', fw ρ z' = .ok (.int w) z') (ha : ρ[i]? = some (some (.loc a))) (hb : ρ[j]? = some (some (.loc b))) (ea : z[a]? = some (.lst (l.map W.int))) (eb : z[b]? = some (.lst (r.map W.int))) (hl : l.length + r.length ≤ 5000) :
    e2 wAdd (e2 wAdd (e2 wAdd (eLst (aCons fx aNil)) (eVar i)) (eVar j)) (eLst (aCons fw aNil)) ρ z = .ok (.loc (z.length + 4)) (z ++ [.lst [.int hd]] ++ [.lst (([hd] ++ l).map W.int)] ++ [.lst (([hd] ++ l ++ r).map W.int)] ++ [.lst [.int w]] ++ [.lst (([hd] ++ l ++ r ++ [w]).map W.int)]) := by
  have g1 : (z ++ [Cell.lst [.int hd]])[z.length]? = some (.lst ([hd].map W.int)) := by rw [cell_at0]; rfl
  have s1 : e2 wAdd (eLst (aCons fx aNil)) (eVar i) ρ z = .ok (.loc (z ++ [Cell.lst [.int hd]]).length) (z ++ [Cell.lst [.int hd]] ++ [.lst (([hd] ++ l).map W.int)]) := by
    refine k_2 (k_lst (k_cons h1 k_nil) (by show _ ≤ 1000000; simp)) (k_var ha) ?_
    have := o_addL (st := z ++ [Cell.lst [.int hd]]) g1 (cell_old ea) (by show _ ≤ 1000000; simp; omega)
    rw [← List.map_append] at this
    exact this
  have g2 : (z ++ [Cell.lst [.int hd]] ++ [Cell.lst (([hd] ++ l).map W.int)])[(z ++ [Cell.lst [.int hd]]).length]? = some (.lst (([hd] ++ l).map W.int)) := by rw [cell_at0]; rfl
  have s2 : e2 wAdd (e2 wAdd (eLst (aCons fx aNil)) (eVar i)) (eVar j) ρ z = .ok (.loc (z ++ [Cell.lst [.int hd]] ++ [Cell.lst (([hd] ++ l).map W.int)]).length) (z ++ [Cell.lst [.int hd]] ++ [.lst (([hd] ++ l).map W.int)] ++ [.lst (([hd] ++ l ++ r).map W.int)]) := by
    refine k_2 s1 (k_var hb) ?_
    have := o_addL g2 (cell_old (cell_old eb)) (by show _ ≤ 1000000; simp; omega)
    rw [← List.map_append] at this
    exact this
  have g3 : (z ++ [Cell.lst [.int hd]] ++ [Cell.lst (([hd] ++ l).map W.int)] ++ [Cell.lst (([hd] ++ l ++ r).map W.int)])[(z ++ [Cell.lst [.int hd]] ++ [Cell.lst (([hd] ++ l).map W.int)]).length]? = some (.lst (([hd] ++ l ++ r).map W.int)) := by rw [cell_at0]; rfl
  have g4 : (z ++ [Cell.lst [.int hd]] ++ [Cell.lst (([hd] ++ l).map W.int)] ++ [Cell.lst (([hd] ++ l ++ r).map W.int)] ++ [Cell.lst [.int w]])[(z ++ [Cell.lst [.int hd]] ++ [Cell.lst (([hd] ++ l).map W.int)] ++ [Cell.lst (([hd] ++ l ++ r).map W.int)]).length]? = some (.lst ([w].map W.int)) := by rw [cell_at0]; rfl
  refine k_2 s2 (k_lst (k_cons (h2 _) k_nil) (by show _ ≤ 1000000; simp)) ?_
  have := o_addL (cell_old g3) g4 (by show _ ≤ 1000000; simp; omega)
  rw [← List.map_append] at this
  rw [this]
  simp
end P
set_option Elab.async false
set_option linter.all false
set_option maxRecDepth 100000
set_option maxHeartbeats 4000000
namespace P
open PySem L2
/-! ### key_of -/
def Ex (st z : List Cell) : Prop := ∃ x, z = st ++ x
theorem Ex.app {st z y : List Cell} (h : Ex st z) : Ex st (z ++ y) := by
  obtain ⟨x, rfl⟩ := h
  exact ⟨x ++ y, List.append_assoc _ _ _⟩
theorem Ex.set {st z : List Cell} {L : Nat} {d : Cell} (h : Ex st z) (hL : st.length ≤ L) : Ex st (z.set L d) := by
  obtain ⟨x, rfl⟩ := h
  exact ⟨x.set (L - st.length) d, by rw [List.set_append_right _ _ hL]⟩
theorem cell_lt {z : List Cell} {q : Nat} {c : Cell} (h : z[q]? = some c) : q < z.length := (List.getElem?_eq_some_iff.mp h).1
theorem pop1 {c : Prop} {z st : List Cell} {L e : Nat} {T T1 : List (List Int)} {k : List Int} {qs : List Nat} (h : KI z L T qs) (ht : (c ∧ T = k :: T1) ∨ (¬c ∧ k = [0] ∧ T = T1)) (hn : e ≠ L) (he : z[e]? = some (.lst ([0].map W.int))) (hE : Ex st z) (hL : st.length ≤ L) :
    ∃ q z1 qs1, KI z1 L T1 qs1 ∧ z1[q]? = some (.lst (k.map W.int)) ∧ Kp1 L z z1 ∧ Ex st z1 ∧ q ≠ L ∧ (∀ x ∈ qs1, x ∈ qs) ∧ ((c ∧ mPop (.loc L) [] z = .ok (.loc q) z1 ∧ isLst z (.loc L) = true) ∨ (¬ c ∧ q = e ∧ z1 = z)) := by
  rcases ht with ⟨hc, rfl⟩ | ⟨hc, rfl, rfl⟩
  · cases qs with
    | nil => have := h.len; simp at this
    | cons q qs =>
      obtain ⟨a, b, d⟩ := h.pop
      exact ⟨q, _, qs, b, d, Kp1.set, hE.set hL, (h.at' 0 q k rfl rfl).1, fun x hx => List.mem_cons_of_mem _ hx, .inl ⟨hc, a, k_isLst h.cell⟩⟩
  · exact ⟨e, z, qs, h, he, fun _ _ e _ => e, hE, hn, fun _ h => h, .inr ⟨hc, rfl, rfl⟩⟩
theorem pp_two {b : Nat} {T S0 : List (List Int)} {l r : List Int} (h : Pp b T l r S0) : ∃ T1, ((2 ≤ b ∧ T = r :: T1) ∨ (¬ 2 ≤ b ∧ r = [0] ∧ T = T1)) ∧ ((b % 2 = 1 ∧ T1 = l :: S0) ∨ (¬ b % 2 = 1 ∧ l = [0] ∧ T1 = S0)) := by
  rcases h with ⟨rfl, rfl, rfl, rfl⟩ | ⟨rfl, rfl, rfl⟩ | ⟨rfl, rfl, rfl⟩ | ⟨rfl, rfl⟩
  · exact ⟨_, .inr ⟨by omega, rfl, rfl⟩, .inr ⟨by omega, rfl, rfl⟩⟩
  · exact ⟨_, .inr ⟨by omega, rfl, rfl⟩, .inl ⟨by omega, rfl⟩⟩
  · exact ⟨_, .inl ⟨by omega, rfl⟩, .inr ⟨by omega, rfl, rfl⟩⟩
  · exact ⟨_, .inl ⟨by omega, rfl⟩, .inl ⟨by omega, rfl⟩⟩
def Ne (T : List (List Int)) : Prop := ∀ k ∈ T, 0 < k.length
theorem pp_ne {b : Nat} {T S0 : List (List Int)} {l r : List Int} (h : Pp b T l r S0) (hT : Ne T) : 0 < l.length ∧ 0 < r.length ∧ Ne S0 := by
  have one : 0 < [(0 : Int)].length := Nat.zero_lt_one
  rcases h with ⟨rfl, rfl, rfl, rfl⟩ | ⟨rfl, rfl, rfl⟩ | ⟨rfl, rfl, rfl⟩ | ⟨rfl, rfl⟩
  · exact ⟨one, one, hT⟩
  · exact ⟨hT _ (List.mem_cons_self ..), one, fun k hk => hT k (List.mem_cons_of_mem _ hk)⟩
  · exact ⟨one, hT _ (List.mem_cons_self ..), fun k hk => hT k (List.mem_cons_of_mem _ hk)⟩
  · exact ⟨hT _ (by simp), hT _ (by simp), fun k hk => hT k (by simp [hk])⟩
theorem kst_ne {ps : List Pl} (h : Wk0 ps) : ∀ i, i ≤ ps.length → Ne (kst (ps.take i))
  | 0, _ => fun k hk => by simp [kst] at hk
  | i + 1, hi => by
    obtain ⟨p, hp⟩ : ∃ p, ps[i]? = some p := ⟨_, List.getElem?_eq_getElem (by omega)⟩
    have ih := kst_ne h i (by omega)
    obtain ⟨b3, hb⟩ := h i p hp
    obtain ⟨l, r, S0, q, hl⟩ := pp_of (S := kst (ps.take i)) b3 (by rw [(kst_ok h i (by omega)).1]; exact hb)
    have n := pp_ne q ih
    rw [take_snoc hp, kst_snoc, push_pp q]
    intro k hk
    rcases List.mem_cons.mp hk with rfl | hk
    · rw [key_len]; omega
    · exact n.2.2 k hk
theorem hd_ix {z : List Cell} {a : Nat} {l : List Int} (h : z[a]? = some (.lst (l.map W.int))) (hn : 0 < l.length) : wIx (.loc a) (.int 0) z = .ok (.int (l.headD 0)) z := by
  cases l with
  | nil => simp at hn
  | cons x r => exact o_ixL (lstOf_l h) (at_nat (q := 0) rfl)
theorem tot_ge {T : List (List Int)} (h : Ne T) : T.length ≤ tot T := by
  induction T with
  | nil => exact Nat.zero_le _
  | cons k T ih =>
    have := ih fun x hx => h x (List.mem_cons_of_mem _ hx)
    have := h k (List.mem_cons_self ..)
    rw [tot_cons, List.length_cons]; omega
/-- the new key is laid upon the stack -/
theorem lay_ok {fx fw : FE} {v : Nat} {ρ : EnvW} {z st : List Cell} {L a b : Nat} {l r : List Int} {T : List (List Int)} {qs : List Nat} {m : List Nat} (h1 : fx ρ z = .ok (.int (l.headD 0 + r.headD 0 + 1)) z) (h2 : ∀ z', fw ρ z' = .ok (.int (wt m)) z') (hv : ρ[v]? = some (some (.loc L))) (ha : ρ[5]? = some (some (.loc a))) (hb : ρ[4]? = some (some (.loc b))) (ea : z[a]? = some (.lst (l.map W.int))) (eb : z[b]? = some (.lst (r.map W.int))) (hl : l.length + r.length ≤ 5000)
    (h : KI z L T qs) (hq : qs.length < 1000) (hE : Ex st z) (hL : st.length ≤ L) :
    ∃ q z', eML mAppend (eVar v) (aCons (e2 wAdd (e2 wAdd (e2 wAdd (eLst (aCons fx aNil)) (eVar 5)) (eVar 4)) (eLst (aCons fw aNil))) aNil) ρ z = .ok .non z' ∧ KI z' L (key l r m :: T) (q :: qs) ∧ Kp1 L z z' ∧ Ex st z' ∧ z.length ≤ q := by
  have hc := cat_ok h1 h2 ha hb ea eb hl
  rw [List.append_assoc, List.append_assoc, List.append_assoc, List.append_assoc] at hc
  obtain ⟨Y, hY⟩ : ∃ Y : List Cell, Y = [.lst [.int (l.headD 0 + r.headD 0 + 1)]] ++ ([.lst (([l.headD 0 + r.headD 0 + 1] ++ l).map W.int)] ++ ([.lst (([l.headD 0 + r.headD 0 + 1] ++ l ++ r).map W.int)] ++ ([.lst [.int (wt m)]] ++ [.lst (([l.headD 0 + r.headD 0 + 1] ++ l ++ r ++ [wt m]).map W.int)]))) := ⟨_, rfl⟩
  rw [← hY] at hc
  have h4 : (z ++ Y)[z.length + 4]? = some (.lst ((key l r m).map W.int)) := by rw [cell_at, hY]; rfl
  have hLz := cell_lt h.cell
  obtain ⟨p1, p2⟩ := (h.app (x := Y)).push (q := z.length + 4) (by omega) h4 hq
  exact ⟨z.length + 4, _, k_ml (k_var hv) (k_isLst h.cell) (k_cons hc k_nil) p1, p2, Kp1.app.trans Kp1.set, hE.app.set hL, by omega⟩
theorem key_of_ok {ps : List Pl} (h : Wk0 ps) (hd : dpt ps ≤ 1) (hn : ps.length ≤ 200) (st : List Cell) : ∃ a x, f_key_of [trW ps] st = .ok (.loc a) (st ++ x) ∧ (st ++ x)[a]? = some (.lst (((kst ps).headD [0]).map W.int)) := by
  suffices hh : Sat (rtP fun w st' => ∃ j x, w = .loc (st.length + j) ∧ st' = st ++ x ∧ (st ++ x)[st.length + j]? = some (.lst (((kst ps).headD [0]).map W.int))) (g_key_of ([trW ps].map some ++ List.replicate (6 - 1) none) st) by
    obtain ⟨j, x, h1, e⟩ := run_new hh
    exact ⟨_, x, e, h1⟩
  apply sat_seq
  · (walk_at "evs")
  apply sat_seq
  · (walk_at "evs")
  have hl1 : (st ++ [Cell.lst [W.int 0]]).length = st.length + 1 := by simp
  rw [hl1]
  obtain ⟨L, hL⟩ : ∃ L, L = st.length + 1 := ⟨_, rfl⟩
  obtain ⟨e, he⟩ : ∃ e, e = st.length := ⟨_, rfl⟩
  rw [← hL, ← he]
  refine sat_for (fun i ρ z => ∃ (qs : List Nat) (o3 o4 o5 : Option W), ρ = [some (trW ps), some (.loc e), some (.loc L), o3, o4, o5] ∧ KI z L (kst (ps.take i)) qs ∧ z[e]? = some (.lst ([0].map W.int)) ∧ Ex st z ∧ ∀ q ∈ qs, st.length ≤ q)
    (i_any_t (st1 := st ++ [Cell.lst [W.int 0]] ++ [Cell.lst []]) (ws := ps.map Pl.w) kv) ⟨[], none, none, none, rfl, ⟨by rw [hL, ← hl1, cell_at0]; rfl, rfl, fun j q k a _ => by simp at a⟩, by rw [he]; exact cell_old (by rw [cell_at0]; rfl), Ex.app (Ex.app ⟨[], by simp⟩), fun q hq => by simp at hq⟩ (fun _ _ _ _ => trivial) ?_ ?_
  · rintro i w ρ z hw ⟨qs, o3, o4, o5, rfl, hK, h0, hE, hq⟩
    obtain ⟨p, hp, rfl⟩ : ∃ p, ps[i]? = some p ∧ w = p.w := by
      simp only [List.getElem?_map, Option.map_eq_some_iff] at hw
      obtain ⟨p, h1, rfl⟩ := hw
      exact ⟨p, h1, rfl⟩
    refine ⟨_, rfl, ?_⟩
    have hi := (List.getElem?_eq_some_iff.mp hp).1
    obtain ⟨b3, hb⟩ := h i p hp
    obtain ⟨k1, k2⟩ := kst_ok h i (by omega)
    have k3 := kst_ne h i (by omega)
    obtain ⟨l, r, S0, hP, hS⟩ := pp_of (S := kst (ps.take i)) b3 (by rw [k1]; exact hb)
    obtain ⟨n1, n2, n3⟩ := pp_ne hP k3
    have ht := pp_tot hP
    obtain ⟨T1, t1, t2⟩ := pp_two hP
    have eL : e ≠ L := by omega
    obtain ⟨c, z1, qs1, a1, a2, a3, a4, a5, a6, a7⟩ := pop1 hK t1 eL h0 hE (by omega)
    obtain ⟨a, z2, qs2, b1, b2, b3', b4, b5, b6, b7⟩ := pop1 a1 t2 eL (a3 _ _ h0 eL) a4 (by omega)
    have right := right_ok b3 (st := z)
    have left := left_ok b3 (st := z1)
    have ev1 : eIf (asB (eDef 1 f_has_right (aCons (eVar 3) aNil))) (eML mPop (eVar 2) aNil) (eVar 1) [some (trW ps), some (.loc e), some (.loc L), some p.w, o4, o5] z = .ok (.loc c) z1 := by
      rcases a7 with ⟨hc, hp, hi⟩ | ⟨hc, rfl, rfl⟩
      · rw [decide_eq_true hc] at right
        exact k_if1 (k_asB (k_def kn right rfl)) (k_ml kv hi k_nil hp)
      · rw [decide_eq_false hc] at right
        exact k_if2 (k_asB (k_def kn right rfl)) kv
    have ev2 : eIf (asB (eDef 1 f_has_left (aCons (eVar 3) aNil))) (eML mPop (eVar 2) aNil) (eVar 1) [some (trW ps), some (.loc e), some (.loc L), some p.w, some (.loc c), o5] z1 = .ok (.loc a) z2 := by
      rcases b7 with ⟨hc, hp, hi⟩ | ⟨hc, rfl, rfl⟩
      · rw [decide_eq_true hc] at left
        exact k_if1 (k_asB (k_def kn left rfl)) (k_ml kv hi k_nil hp)
      · rw [decide_eq_false hc] at left
        exact k_if2 (k_asB (k_def kn left rfl)) kv
    apply sat_seq
    · exact k_set ev1
    apply sat_seq
    · exact k_set ev2
    have ix1 := hd_ix b2 n1
    have ix2 := hd_ix (b3' _ _ a2 a5) n2
    obtain ⟨q, z3, c1, c2, c3, c4, c5⟩ := lay_ok (v := 2) (fx := e2 wAdd (e2 wAdd (e2 wIx (eVar 5) (eC (.int 0))) (e2 wIx (eVar 4) (eC (.int 0)))) (eC (.int 1))) (fw := eDef 2 f_letter_of (aCons (eC c_ALL_LETTERS) (aCons (e2 wIx (eVar 3) (eC (.int 1))) aNil))) (ρ := [some (trW ps), some (.loc e), some (.loc L), some p.w, some (.loc c), some (.loc a)]) (z := z2) (m := p.m)
      (k_2 (k_2 (k_2 kv k_C ix1) (k_2 kv k_C ix2) o_addI) k_C o_addI) (fun z' => k_def (k_cons k_C (k_cons (k_2 kv k_C (pl_m p z')) k_nil)) (letter_ok LL p.m z') rfl) rfl rfl rfl b2 (b3' _ _ a2 a5) (by omega) b1 (by rw [b1.len]; have := tot_ge n3; omega) b4 (by omega)
    apply sat_eq
    · exact k_expr c1
    · refine ⟨_, _, rfl, _, _, _, _, rfl, by rw [take_snoc hp, kst_snoc, push_pp hP]; exact c2, c3 _ _ (b3' _ _ (a3 _ _ h0 eL) eL) eL, c4, fun x hx => ?_⟩
      rcases List.mem_cons.mp hx with rfl | hx
      · obtain ⟨y, rfl⟩ := b4
        rw [List.length_append] at c5; omega
      · exact hq x (a6 x (b6 x hx))
  · rintro ρ z ⟨qs, o3, o4, o5, rfl, hK, h0, hE, hq⟩
    rw [show (ps.map Pl.w, (none : Option (Nat × List W))).1.length = ps.length from List.length_map .., List.take_length] at hK
    have hlen := o_lenL (lstOf_l hK.cell)
    rw [List.length_map, List.length_reverse, hK.len] at hlen
    have hk1 := (kst_ok h ps.length (Nat.le_refl _)).1
    rw [List.take_length] at hk1
    obtain ⟨x, rfl⟩ := hE
    subst he
    cases hk : kst ps with
    | nil =>
      rw [hk] at hlen
      apply sat_ret
      · exact k_if2 (k_asB (k_2 (k_call kn hlen) k_C (o_cmp rfl))) kv
      · exact ⟨_, _, rfl, 0, x, rfl, rfl, by rw [Nat.add_zero]; exact h0⟩
    | cons k T =>
      have : T = [] := by rw [hk, List.length_cons] at hk1; exact List.length_eq_zero_iff.mp (by omega)
      subst this
      rw [hk] at hlen hK
      obtain ⟨q, rfl⟩ : ∃ q, qs = [q] := by
        have := hK.len
        match qs, this with
        | [q], _ => exact ⟨q, rfl⟩
      have i0 : wIx (.loc L) (.int 0) (st ++ x) = .ok (.loc q) (st ++ x) := o_ixL (lstOf_l hK.cell) rfl
      apply sat_ret
      · exact k_if1 (k_asB (k_2 (k_call kn hlen) k_C (o_cmp rfl))) (k_2 kv k_C i0)
      · have := hq q (by simp)
        exact ⟨_, _, rfl, q - st.length, x, by rw [show st.length + (q - st.length) = q by omega], rfl, by rw [show st.length + (q - st.length) = q by omega]; exact (hK.at' 0 q k rfl rfl).2⟩
/-! ### the law's key -/
theorem letters_ok (st : List Cell) : f__law_letters [] st = .ok (.str LL) st := by
  refine run_is (N := 0) (ws := []) (body := g__law_letters) ?_ rfl
  apply sat_ret
  · exact k_C
  · exact ⟨_, _, rfl, rfl, [], by simp⟩
theorem weight_ok (m : List Nat) (st : List Cell) : f__law_weight [.str m] st = .ok (.int (wt m)) st := by
  refine run_is (N := 3) (ws := [.str m]) (body := g__law_weight) ?_ rfl
  apply sat_seq
  · (walk_at "evs")
  refine sat_for (fun i ρ s => ∃ o3 : Option W, ρ = [some (.str m), some (.int (numF m (LL.take i) : Nat)), o3] ∧ s = st) (i_any_s (st1 := st) (k_def (ws := []) k_nil (letters_ok st) rfl)) ⟨none, rfl, rfl⟩ (fun _ _ _ _ => trivial) ?_ ?_
  · rintro i w ρ s hw ⟨o3, rfl, rfl⟩
    obtain ⟨c, hc, rfl⟩ := signs_at hw
    refine ⟨_, rfl, ?_⟩
    have e := numF_snoc m (LL.take i) c
    rw [← take_snoc hc] at e
    have bi : bInt [.bl (decide (c ∈ m))] s = .ok (.int ((if c ∈ m then 1 else 0 : Nat) : Int)) s := by
      by_cases h : c ∈ m
      · rw [decide_eq_true h, if_pos h]; rfl
      · rw [decide_eq_false h, if_neg h]; rfl
    apply sat_eq
    · exact k_set (k_2 (k_2 k_C kv (o_mulI (.inl (by decide)))) (k_call (k_cons (k_2 kv kv o_inS) k_nil) bi) o_addI)
    · exact ⟨_, _, rfl, _, by rw [e, Int.natCast_add, Int.natCast_mul]; rfl, rfl⟩
  · rintro ρ s ⟨o3, rfl, rfl⟩
    apply sat_ret
    · (walk_at "evs")
    · exact ⟨_, _, rfl, by rw [show (signsW LL, (none : Option (Nat × List W))).fst.length = LL.length from signs_len LL, List.take_length], [], by simp⟩
theorem key_ok {ps : List Pl} (h : Wk0 ps) (hn : ps.length ≤ 200) (st : List Cell) : ∃ a x, f__law_key [trW ps] st = .ok (.loc a) (st ++ x) ∧ (st ++ x)[a]? = some (.lst (((kst ps).headD [0]).map W.int)) := by
  suffices hh : Sat (rtP fun w st' => ∃ j x, w = .loc (st.length + j) ∧ st' = st ++ x ∧ (st ++ x)[st.length + j]? = some (.lst (((kst ps).headD [0]).map W.int))) (g__law_key ([trW ps].map some ++ List.replicate (6 - 1) none) st) by
    obtain ⟨j, x, h1, e⟩ := run_new hh
    exact ⟨_, x, e, h1⟩
  apply sat_seq
  · (walk_at "evs")
  have hl1 : (st ++ [Cell.lst [W.int 0]]).length = st.length + 1 := by simp
  rw [hl1]
  obtain ⟨L, hL⟩ : ∃ L, L = st.length + 1 := ⟨_, rfl⟩
  rw [← hL]
  refine sat_for (fun i ρ z => ∃ (qs : List Nat) (o3 o4 o5 o6 : Option W), ρ = [some (trW ps), some (.loc L), o3, o4, o5, o6] ∧ KI z L (kst (ps.take i) ++ [[0]]) qs ∧ Ex st z ∧ ∀ q ∈ qs, st.length ≤ q)
    (i_any_t (st1 := st ++ [Cell.lst [W.int 0]] ++ [Cell.lst [.loc st.length]]) (ws := ps.map Pl.w) kv) ⟨[st.length], none, none, none, none, rfl, ⟨by rw [hL, ← hl1, cell_at0]; rfl, rfl, fun j q k a b => ?_⟩, Ex.app (Ex.app ⟨[], by simp⟩), fun q hq => by rw [List.mem_singleton.mp hq]; exact Nat.le_refl _⟩ (fun _ _ _ _ => trivial) ?_ ?_
  · cases j with
    | zero => cases a; cases b; exact ⟨by omega, cell_old (by rw [cell_at0]; rfl)⟩
    | succ j => simp at a
  · rintro i w ρ z hw ⟨qs, o3, o4, o5, o6, rfl, hK, hE, hq⟩
    obtain ⟨p, hp, rfl⟩ : ∃ p, ps[i]? = some p ∧ w = p.w := by
      simp only [List.getElem?_map, Option.map_eq_some_iff] at hw
      obtain ⟨p, h1, rfl⟩ := hw
      exact ⟨p, h1, rfl⟩
    refine ⟨[some (trW ps), some (.loc L), some (.int p.b), some (.str p.m), o5, o6], rfl, ?_⟩
    have hi := (List.getElem?_eq_some_iff.mp hp).1
    obtain ⟨b3, hb⟩ := h i p hp
    obtain ⟨k1, k2⟩ := kst_ok h i (by omega)
    have k3 : Ne (kst (ps.take i) ++ [[0]]) := fun k hk => (List.mem_append.mp hk).elim (kst_ne h i (by omega) k) fun e => by rw [List.mem_singleton.mp e]; exact Nat.zero_lt_one
    obtain ⟨l, r, S0, hP, hS⟩ := pp_of (S := kst (ps.take i)) b3 (by rw [k1]; exact hb)
    have hP' := hP.more [[0]]
    obtain ⟨n1, n2, n3⟩ := pp_ne hP' k3
    have ht := pp_tot hP
    obtain ⟨T1, t1, t2⟩ := pp_two hP'
    have hLz := cell_lt hK.cell
    apply sat_seq
    · (walk_at "evs")
    apply sat_seq
    · (walk_at "evs")
    have hl2 : (z ++ [Cell.lst [W.int 0]]).length = z.length + 1 := by simp
    rw [hl2]
    have g1 : (z ++ [Cell.lst [W.int 0]] ++ [Cell.lst [W.int 0]])[z.length]? = some (.lst ([0].map W.int)) := cell_old (by rw [cell_at0]; rfl)
    have g2 : (z ++ [Cell.lst [W.int 0]] ++ [Cell.lst [W.int 0]])[z.length + 1]? = some (.lst ([0].map W.int)) := by rw [← hl2, cell_at0]; rfl
    obtain ⟨Z, hZ⟩ : ∃ Z, Z = z ++ [Cell.lst [W.int 0]] ++ [Cell.lst [W.int 0]] := ⟨_, rfl⟩
    have hK0 : KI Z L (kst (ps.take i) ++ [[0]]) qs := by rw [hZ]; exact hK.app.app
    have hE0 : Ex st Z := by rw [hZ]; exact hE.app.app
    have hzZ : z.length ≤ Z.length := by rw [hZ]; simp
    rw [← hZ] at g1 g2 ⊢
    obtain ⟨c, z1, qs1, a1, a2, a3, a4, a5, a6, a7⟩ := pop1 hK0 t1 (by omega) g1 hE0 (by omega)
    obtain ⟨a, z2, qs2, b1, b2, b3', b4, b5, b6, b7⟩ := pop1 a1 t2 (by omega) (a3 _ _ g2 (by omega)) a4 (by omega)
    refine sat_cut (fun ρ s => ρ = [some (trW ps), some (.loc L), some (.int p.b), some (.str p.m), some (.loc c), some (.loc (z.length + 1))] ∧ s = z1) ?_ ?_
    · rcases a7 with ⟨hc, hp, hi⟩ | ⟨hc, rfl, rfl⟩
      · have t : decide ((2 : Int) ≤ (p.b : Int)) = true := decide_eq_true (by omega)
        apply sat_t
        · exact k_asB (k_2 kv k_C (o_cmp t))
        apply sat_eq
        · exact k_set (k_ml kv hi k_nil hp)
        · exact ⟨_, _, rfl, rfl, rfl⟩
      · have t : decide ((2 : Int) ≤ (p.b : Int)) = false := decide_eq_false (by omega)
        apply sat_f
        · exact k_asB (k_2 kv k_C (o_cmp t))
        apply sat_eq
        · exact k_next
        · exact ⟨_, _, rfl, rfl, rfl⟩
    rintro ρ s ⟨rfl, rfl⟩
    refine sat_cut (fun ρ s => ρ = [some (trW ps), some (.loc L), some (.int p.b), some (.str p.m), some (.loc c), some (.loc a)] ∧ s = z2) ?_ ?_
    · rcases b7 with ⟨hc, hp, hi⟩ | ⟨hc, rfl, rfl⟩
      · have t : (((p.b : Nat) : Int) % 2 == 1) = true := beq_iff_eq.mpr (by omega)
        apply sat_t
        · (walk_at "evs")
        apply sat_eq
        · exact k_set (k_ml kv hi k_nil hp)
        · exact ⟨_, _, rfl, rfl, rfl⟩
      · have t : (((p.b : Nat) : Int) % 2 == 1) = false := beq_eq_false_iff_ne.mpr (by omega)
        apply sat_f
        · (walk_at "evs")
        apply sat_eq
        · exact k_next
        · exact ⟨_, _, rfl, rfl, rfl⟩
    rintro ρ s ⟨rfl, rfl⟩
    have ix1 := hd_ix b2 n1
    have ix2 := hd_ix (b3' _ _ a2 a5) n2
    have hS2 : qs2.length < 1000 := by
      rw [b1.len, List.length_append]
      have := tot_ge (kst_ne h i (by omega))
      show S0.length + 1 < 1000
      omega
    obtain ⟨q, z3, c1, c2, c3, c4, c5⟩ := lay_ok (v := 1) (fx := e2 wAdd (e2 wAdd (eC (.int 1)) (e2 wIx (eVar 5) (eC (.int 0)))) (e2 wIx (eVar 4) (eC (.int 0)))) (fw := eDef 1 f__law_weight (aCons (eVar 3) aNil)) (ρ := [some (trW ps), some (.loc L), some (.int p.b), some (.str p.m), some (.loc c), some (.loc a)]) (z := s) (m := p.m)
      (by rw [show l.headD 0 + r.headD 0 + 1 = 1 + l.headD 0 + r.headD 0 by omega]; exact k_2 (k_2 k_C (k_2 kv k_C ix1) o_addI) (k_2 kv k_C ix2) o_addI) (fun z' => k_def kn (weight_ok p.m z') rfl) rfl rfl rfl b2 (b3' _ _ a2 a5) (by omega) b1 hS2 b4 (by omega)
    apply sat_eq
    · exact k_expr c1
    · refine ⟨_, _, rfl, _, _, _, _, _, rfl, by rw [take_snoc hp, kst_snoc, push_pp hP]; exact c2, c4, fun x hx => ?_⟩
      rcases List.mem_cons.mp hx with rfl | hx
      · obtain ⟨y, rfl⟩ := b4
        rw [List.length_append] at c5; omega
      · exact hq x (a6 x (b6 x hx))
  · rintro ρ z ⟨qs, o3, o4, o5, o6, rfl, hK, hE, hq⟩
    rw [show (ps.map Pl.w, (none : Option (Nat × List W))).1.length = ps.length from List.length_map .., List.take_length] at hK
    obtain ⟨x, rfl⟩ := hE
    cases qs with
    | nil => have := hK.len; simp at this
    | cons q qs =>
      have hc := hK.cell
      rw [List.reverse_cons, List.map_append] at hc
      have i0 : wIx (.loc L) (.int (-1)) (st ++ x) = .ok (.loc q) (st ++ x) := o_ixL (lstOf_l hc) (at_neg (q := 0) (by simp))
      have hk : (kst ps ++ [[0]])[0]? = some ((kst ps).headD [0]) := by cases kst ps <;> rfl
      apply sat_ret
      · exact k_2 kv (k_neg k_C) i0
      · have := hq q (by simp)
        exact ⟨_, _, rfl, q - st.length, x, by rw [show st.length + (q - st.length) = q by omega], rfl, by rw [show st.length + (q - st.length) = q by omega]; exact (hK.at' 0 q _ rfl hk).2⟩
end P
set_option Elab.async false
set_option linter.all false
set_option maxRecDepth 100000
set_option maxHeartbeats 4000000
namespace P
open PySem L2
def rn (d : Nat) (ps : List Pl) : Nat := ps.foldl (fun d p => d + 1 - (p.b + 1) / 2) d
def WF : Nat → List Pl → Prop
  | _, [] => True
  | d, p :: r => p.b ≤ 3 ∧ (p.b + 1) / 2 ≤ d ∧ WF (d + 1 - (p.b + 1) / 2) r
theorem rn_app (d : Nat) (a b : List Pl) : rn d (a ++ b) = rn (rn d a) b := by unfold rn; rw [List.foldl_append]
theorem WF.app : ∀ {a b : List Pl} {d : Nat}, WF d a → WF (rn d a) b → WF d (a ++ b)
  | [], _, _, _, h => h
  | _ :: _, _, _, ⟨h1, h2, h3⟩, h => ⟨h1, h2, h3.app h⟩
theorem WF.un : ∀ {a b : List Pl} {d : Nat}, WF d (a ++ b) → WF d a ∧ WF (rn d a) b
  | [], _, _, h => ⟨trivial, h⟩
  | _ :: a, _, _, ⟨h1, h2, h3⟩ => by
    obtain ⟨a1, a2⟩ := WF.un (a := a) h3
    exact ⟨⟨h1, h2, a1⟩, a2⟩
theorem WF.up : ∀ {a : List Pl} {d : Nat} (e : Nat), WF d a → WF (e + d) a ∧ rn (e + d) a = e + rn d a
  | [], _, _, _ => ⟨trivial, rfl⟩
  | p :: a, d, e, ⟨h1, h2, h3⟩ => by
    obtain ⟨a1, a2⟩ := WF.up (a := a) e h3
    rw [show e + (d + 1 - (p.b + 1) / 2) = e + d + 1 - (p.b + 1) / 2 by omega] at a1 a2
    exact ⟨⟨h1, by omega, a1⟩, a2⟩
theorem wf_iff : ∀ {ps : List Pl} {d : Nat}, (∀ i p, ps[i]? = some p → p.b ≤ 3 ∧ (p.b + 1) / 2 ≤ rn d (ps.take i)) ↔ WF d ps
  | [], d => ⟨fun _ => trivial, fun _ i p e => by simp at e⟩
  | p :: r, d => by
    constructor
    · intro h
      have h0 := h 0 p rfl
      exact ⟨h0.1, h0.2, wf_iff.mp fun i q e => h (i + 1) q e⟩
    · rintro ⟨h1, h2, h3⟩ i q e
      cases i with
      | zero => cases e; exact ⟨h1, h2⟩
      | succ i => exact wf_iff.mpr h3 i q e
/-- a whole tree -/
def Tr (a : List Pl) : Prop := WF 0 a ∧ rn 0 a = 1
theorem Tr.up {a : List Pl} (h : Tr a) (e : Nat) : WF e a ∧ rn e a = e + 1 := by
  obtain ⟨a1, a2⟩ := WF.up e h.1
  rw [h.2] at a2
  exact ⟨a1, a2⟩
theorem wf1 {d b : Nat} {m : List Nat} (hb : b ≤ 3) (h : (b + 1) / 2 ≤ d) : WF d [⟨b, m⟩] := ⟨hb, h, trivial⟩
theorem rn1 (d b : Nat) (m : List Nat) : rn d [⟨b, m⟩] = d + 1 - (b + 1) / 2 := rfl
def SS : List Pl → List Nat → Prop
  | ps, [] => ps = []
  | ps, a :: S => ∃ X A, ps = X ++ A ∧ A.length = a ∧ Tr A ∧ SS X S
theorem gr_ss {ps : List Pl} {S sz : List Nat} {lk : List (Option Nat × Option Nat)} (h : Gr ps S sz lk) : SS ps S := by
  induction h with
  | nil => rfl
  | @snoc ps _ _ _ _ _ _ m _ _ hs ih =>
    cases hs with
    | z => exact ⟨ps, [⟨0, m⟩], rfl, rfl, ⟨wf1 (by omega) (by omega), by rw [rn1]⟩, ih⟩
    | l =>
      obtain ⟨X, A, rfl, rfl, ht, hX⟩ := ih
      exact ⟨X, A ++ [⟨1, m⟩], List.append_assoc .., by rw [List.length_append, List.length_singleton, Nat.add_comm], ⟨ht.1.app (by rw [ht.2]; exact wf1 (by omega) (by omega)), by rw [rn_app, ht.2, rn1]⟩, hX⟩
    | r =>
      obtain ⟨X, A, rfl, rfl, ht, hX⟩ := ih
      exact ⟨X, A ++ [⟨2, m⟩], List.append_assoc .., by rw [List.length_append, List.length_singleton, Nat.add_comm], ⟨ht.1.app (by rw [ht.2]; exact wf1 (by omega) (by omega)), by rw [rn_app, ht.2, rn1]⟩, hX⟩
    | b =>
      obtain ⟨X, C, rfl, rfl, hc, Y, A, rfl, rfl, ha, hY⟩ := ih
      have e : rn 0 (A ++ C) = 2 := by rw [rn_app, ha.2, (hc.up 1).2]
      exact ⟨Y, A ++ C ++ [⟨3, m⟩], by simp, by simp; omega, ⟨(ha.1.app (by rw [ha.2]; exact (hc.up 1).1)).app (by rw [e]; exact wf1 (by omega) (by omega)), by rw [rn_app, e, rn1]⟩, hY⟩
/-! ### a tree with its bounds -/
structure Wd (t : List Pl) (i : Nat) : Prop where
  wf : WF 0 t
  one : rn 0 t ≤ 1
  len : t.length ≤ 100
  mks : ∀ p ∈ t, p.m.length ≤ 52 + i
theorem Wd.mono {t : List Pl} {i j : Nat} (h : Wd t i) (hj : i ≤ j) : Wd t j := ⟨h.wf, h.one, h.len, fun p hp => Nat.le_trans (h.mks p hp) (by omega)⟩
theorem Wd.wk {t : List Pl} {i : Nat} (h : Wd t i) : Wk0 t := wf_iff.mpr h.wf
theorem Wd.gr {t : List Pl} {i : Nat} (h : Wd t i) : ∃ S sz lk, Gr t S sz lk := by
  obtain ⟨S, sz, lk, g, _⟩ := wk_gr _ t rfl h.wk
  exact ⟨S, sz, lk, g⟩
theorem gr_wd {t : List Pl} {S sz : List Nat} {lk : List (Option Nat × Option Nat)} (g : Gr t S sz lk) (h1 : S.length ≤ 1) (h2 : t.length ≤ 100) {i : Nat} (h3 : ∀ p ∈ t, p.m.length ≤ 52 + i) : Wd t i := by
  obtain ⟨a, b⟩ := gr_wk g
  exact ⟨wf_iff.mp a, by show dpt t ≤ 1; omega, h2, h3⟩
theorem split_at {t : List Pl} {q : Nat} {p : Pl} (h : t[q]? = some p) : t = t.take q ++ [p] ++ t.drop (q + 1) := by
  have hq := (List.getElem?_eq_some_iff.mp h).1
  rw [← take_snoc h, List.take_append_drop]
theorem Wd.put {t : List Pl} {i j q b : Nat} {p : Pl} {m : List Nat} (h : Wd t i) (hp : t[q]? = some p) (hb : b ≤ 3) (hg : (b + 1) / 2 = (p.b + 1) / 2) (hm : m.length ≤ 52 + j) (hj : i ≤ j) : Wd (t.take q ++ [⟨b, m⟩] ++ t.drop (q + 1)) j := by
  have e := split_at hp
  have hw := h.wf
  have ho := h.one
  have hl := h.len
  have hk := h.mks
  generalize t.take q = X at e ⊢
  generalize t.drop (q + 1) = Z at e ⊢
  subst e
  have en : rn (rn 0 X) [⟨b, m⟩] = rn (rn 0 X) [p] := by show rn 0 X + 1 - (b + 1) / 2 = rn 0 X + 1 - (p.b + 1) / 2; rw [hg]
  obtain ⟨h1, h2⟩ := hw.un
  obtain ⟨h3, h4⟩ := h1.un
  rw [rn_app] at h2
  rw [rn_app, rn_app] at ho
  refine ⟨(h3.app (wf1 hb (by rw [hg]; exact h4.2.1))).app (by rw [rn_app, en]; exact h2), by rw [rn_app, rn_app, en]; exact ho, ?_, fun x hx => ?_⟩
  · simp only [List.length_append, List.length_singleton] at hl ⊢; exact hl
  · rcases List.mem_append.mp hx with hx | hx
    · rcases List.mem_append.mp hx with hx | hx
      · exact Nat.le_trans (hk x (by simp [hx])) (by omega)
      · rw [List.mem_singleton.mp hx]; exact hm
    · exact Nat.le_trans (hk x (by simp [hx])) (by omega)
theorem Wd.swap {X A C Z : List Pl} {i : Nat} (h : Wd (X ++ A ++ C ++ Z) i) (hA : Tr A) (hC : Tr C) : Wd (X ++ (C ++ A) ++ Z) i := by
  obtain ⟨hw, ho, hl, hk⟩ := h
  have e1 : rn 0 (X ++ A ++ C) = rn 0 X + 2 := by rw [rn_app, rn_app, (hA.up _).2, (hC.up _).2]
  have e2 : rn 0 (X ++ (C ++ A)) = rn 0 X + 2 := by rw [rn_app, rn_app, (hC.up _).2, (hA.up _).2]
  obtain ⟨h1, h2⟩ := hw.un
  rw [e1] at h2
  rw [rn_app, e1] at ho
  refine ⟨(h1.un.1.un.1.app ((hC.up _).1.app (by rw [(hC.up _).2]; exact (hA.up _).1))).app (by rw [e2]; exact h2), by rw [rn_app, e2]; exact ho, ?_, fun p hp => hk p ?_⟩
  · simp only [List.length_append] at hl ⊢; omega
  · simp only [List.mem_append] at hp ⊢
    rcases hp with (h | h | h) | h <;> simp [h]
/-! ### the place is put anew -/
theorem put_ok {fb fm : FE} {v : Nat} {ρ : EnvW} {z : List Cell} {t : List Pl} {q b : Nat} {m : List Nat} (h0 : ρ[0]? = some (some (trW t))) (hv : ρ[v]? = some (some (.int (q : Nat)))) (hq : q < t.length) (hl : t.length ≤ 100) (hb : fb ρ z = .ok (.int (b : Nat)) z) (hm : fm ρ z = .ok (.str m) z) :
    e2 wAdd (e2 wAdd (eSl (eVar 0) oNone (oSome (eVar v))) (eTup (aCons (eTup (aCons fb (aCons fm aNil))) aNil))) (eSl (eVar 0) (oSome (e2 wAdd (eVar v) (eC (.int 1)))) oNone) ρ z = .ok (trW (t.take q ++ [⟨b, m⟩] ++ t.drop (q + 1))) z := by
  have s1 := tr_pre (a := t) (q := q) (by omega) z
  have s2 := tr_suf (a := t) (q := q + 1) (by omega) z
  have hx : eTup (aCons (eTup (aCons fb (aCons fm aNil))) aNil) ρ z = .ok (trW [⟨b, m⟩]) z := k_tup (k_cons (k_tup (k_cons hb (k_cons hm k_nil)) (Nat.le_of_ble_eq_true rfl)) k_nil) (Nat.le_of_ble_eq_true rfl)
  exact k_2 (k_2 (k_sl (k_var h0) k_oN (k_oS (k_var hv)) s1) hx (tr_app _ _ (by simp; omega) z)) (k_sl (k_var h0) (k_oS (k_2 (k_var hv) k_C o_addI)) k_oN s2) (tr_app _ _ (by simp; omega) z)
theorem und1 (t : List Pl) (n : Nat) : undWs n [trW t] = true := by unfold undWs; rw [und_tr]; rfl
theorem marked_ok {t : List Pl} (h : Wd t 0) (c s : Int) (st : List Cell) : ∃ t', Wd t' 0 ∧ f__law_marked [trW t, .int c, .int s] st = .ok (trW t') st := by
  suffices hh : Sat (rtP fun w st' => (∃ x, st' = st ++ x) ∧ undWs st.length [w] = true ∧ ∃ t', w = trW t' ∧ Wd t' 0) (g__law_marked ([trW t, .int c, .int s].map some ++ List.replicate (6 - 3) none) st) by
    obtain ⟨w, ⟨t', rfl, h1⟩, e⟩ := run_val hh
    exact ⟨t', h1, e⟩
  have hl := h.len
  obtain ⟨ds, dl, hp, e1⟩ := draws_ok c s 55 (by omega) st
  have e1 : f__law_draws [.int c, .int 55, .int s] st = _ := e1
  apply sat_seq
  · (walk_at "evs")
  obtain ⟨z, hz⟩ : ∃ z, z = st ++ [Cell.lst (ds.map W.int)] := ⟨_, rfl⟩
  have hc : z[st.length]? = some (.lst (ds.map W.int)) := by rw [hz, cell_at0]; rfl
  rw [← hz]
  have hds : ∀ i : Nat, i < 55 → wIx (.loc st.length) (.int i) z = .ok (.int (ds.getD i 0)) z := fun i hi => o_ixL (lstOf_l hc) (at_nat (by rw [List.getElem?_map, List.getElem?_eq_getElem (by omega), List.getD_eq_getElem?_getD, List.getElem?_eq_getElem (by omega)]; rfl))
  have i0 : wIx (.loc st.length) (.int 0) z = _ := hds 0 (by omega)
  have i1 : wIx (.loc st.length) (.int 1) z = _ := hds 1 (by omega)
  have i2 : wIx (.loc st.length) (.int 2) z = _ := hds 2 (by omega)
  have ln := tr_len t z
  have stay : ∀ w, w = trW t → (rtP fun w st' => (∃ x, st' = st ++ x) ∧ undWs st.length [w] = true ∧ ∃ t', w = trW t' ∧ Wd t' 0) (.rt w z) := by
    rintro w rfl
    exact ⟨_, _, rfl, ⟨_, hz⟩, und1 _ _, t, rfl, h⟩
  by_cases h0 : t.length = 0
  · have t1 : ((t.length : Int) == 0) = true := beq_iff_eq.mpr (by omega)
    apply sat_seq_t
    · exact k_bor_t (k_asB (k_2 (k_call kn ln) k_C (o_eqI t1)))
    apply sat_seq_ret
    · exact k_var rfl
    · exact stay _ rfl
  have t1 : ((t.length : Int) == 0) = false := beq_eq_false_iff_ne.mpr (by omega)
  have tt : ∀ k, (ds.getD 0 0 % 8 != 3) = k → bor (asB (e2 wEq (eCall bLen (aCons (eVar 0) aNil)) (eC (.int 0)))) (asB (e2 wNe (e2 wMod (e2 wIx (eVar 3) (eC (.int 0))) (eC (.int 8))) (eC (.int 3)))) [some (trW t), some (.int c), some (.int s), some (.loc st.length), none, none] z = .ok k z := fun k hk =>
    k_bor_f (k_asB (k_2 (k_call kn ln) k_C (o_eqI t1))) (k_asB (k_2 (k_2 (k_2 kv k_C i0) k_C (o_II (by decide))) k_C (o_neI hk)))
  cases h8 : (ds.getD 0 0 % 8 != 3) with
  | true =>
    apply sat_seq_t
    · exact tt _ h8
    apply sat_seq_ret
    · exact k_var rfl
    · exact stay _ rfl
  | false =>
    apply sat_seq_f
    · exact tt _ h8
    apply sat_next
    obtain ⟨q, hq, eq⟩ := mod_nat (q := ds.getD 1 0 + 64 * ds.getD 2 0) (n := t.length) (by omega)
    apply sat_seq
    · exact k_set (k_2 (k_2 (k_2 kv k_C i1) (k_2 k_C (k_2 kv k_C i2) (o_mulI (.inl (by decide)))) o_addI) (k_call kn ln) (o_II (by show (0 : Int) < _; omega)))
    rw [eq]
    obtain ⟨p, hpp⟩ : ∃ p, t[q]? = some p := ⟨_, List.getElem?_eq_getElem hq⟩
    let T : W → Bool := fun w => ds.getD (3 + ixOf w) 0 % 2 == 1
    let yl : W → List Nat := fun w => [LL.getD (ixOf w) 0]
    obtain ⟨ls, hls⟩ : ∃ ls, ls = ((rangeW 0 52).filter T).map yl := ⟨_, rfl⟩
    have hlen : ls.length ≤ 52 := by
      rw [hls, List.length_map]
      refine Nat.le_trans (List.length_filter_le _ _) ?_
      rw [rangeW_len]; exact Nat.le_refl _
    have hone : ∀ x ∈ ls, x.length = 1 := by
      rw [hls]; intro x hx
      obtain ⟨w, _, rfl⟩ := List.mem_map.mp hx; rfl
    have hsum : ∀ l : List (List Nat), (∀ x ∈ l, x.length = 1) → (l.map List.length).sum = l.length := by
      intro l
      induction l with
      | nil => intro; rfl
      | cons x r ih =>
        intro h
        simp only [List.map_cons, List.sum_cons, List.length_cons]
        rw [h x (by simp), ih fun y hy => h y (by simp [hy])]; omega
    have hss := hsum ls hone
    have hcm : eComp [none, some 3] (itRange1 (aCons (eC (.int 52)) aNil)) (gNm 0) (asB (e2 wEq (e2 wMod (e2 wIx (eVar 1) (e2 wAdd (eC (.int 3)) (eVar 0))) (eC (.int 2))) (eC (.int 1)))) (e2 wIx (eDef 0 f__law_letters aNil) (eVar 0)) [some (trW t), some (.int c), some (.int s), some (.loc st.length), some (.int q), none] z = .ok (.loc z.length) (z ++ [.lst (ls.map W.str)]) := by
      have := k_comp (fi := itRange1 (aCons (eC (.int 52)) aNil)) (f := gNm 0) (t := asB (e2 wEq (e2 wMod (e2 wIx (eVar 1) (e2 wAdd (eC (.int 3)) (eVar 0))) (eC (.int 2))) (eC (.int 1)))) (el := e2 wIx (eDef 0 f__law_letters aNil) (eVar 0)) (cap := [none, some 3]) (ρ := [some (trW t), some (.int c), some (.int s), some (.loc st.length), some (.int q), none]) (st := z) (st1 := z) (ws := rangeW 0 52) (ck := none) T (fun w => .str (yl w))
        (i_range1 (q := 52) (k_cons k_C k_nil) (by decide)) (by rw [rangeW_len]; exact Nat.le_of_ble_eq_true rfl) trivial ?_
      · rw [this, hls, List.map_map]; rfl
      · intro w hw
        obtain ⟨i, hi, rfl⟩ := range_mem hw
        have ei : ixOf (.int (0 + (i : Int))) = i := by simp [ixOf]
        have g : wIx (.loc st.length) (.int (3 + (0 + (i : Int)))) z = .ok (.int (ds.getD (3 + i) 0)) z := by
          have := hds (3 + i) (by omega)
          rw [show ((3 + i : Nat) : Int) = 3 + (0 + (i : Int)) by omega] at this
          exact this
        refine ⟨[some (.int (0 + (i : Int))), some (.loc st.length)], rfl, ?_, fun _ => ?_⟩
        · exact k_asB (k_2 (k_2 (k_2 kv (k_2 k_C kv o_addI) g) k_C (o_II (by decide))) k_C (o_eqI (by show _ = (ds.getD (3 + ixOf (.int (0 + (i : Int)))) 0 % 2 == 1); rw [ei])))
        · refine k_2 (k_def (ws := []) k_nil (letters_ok z) rfl) kv ?_
          rw [show ((0 : Int) + (i : Int)) = (i : Int) by omega]
          have e2 : atI LL (i : Int) = some (LL.getD i 0) := at_nat (by rw [List.getD_eq_getElem?_getD, List.getElem?_eq_getElem (show i < LL.length from hi)]; rfl)
          rw [o_ixS (Nat.le_of_ble_eq_true rfl) e2]
          simp [yl, ixOf]
    have hcell : lstOf (z ++ [Cell.lst (ls.map W.str)]) z.length = some (ls.map W.str) := lstOf_l (by rw [cell_at0]; rfl)
    have hj := o_join (sep := []) hcell (by rw [hss]; show _ ≤ 1000000; simp; omega)
    apply sat_seq
    · exact k_set (k_ms k_C rfl (k_cons hcm k_nil) hj)
    apply sat_ret
    · exact put_ok (b := p.b) rfl rfl hq hl (k_2 (k_2 kv kv (tr_ix hpp _)) k_C (pl_b p _)) kv
    · exact ⟨_, _, rfl, ⟨_, by rw [hz, List.append_assoc]⟩, und1 _ _, _, rfl, h.put hpp (h.wk q p hpp).1 rfl (by rw [joinN_nil, List.length_flatten, hss]; omega) (Nat.le_refl _)⟩
theorem k_asg {fe : FE} {f : FG} {ρ ρ' : EnvW} {st st1 : List Cell} {w : W} (h : fe ρ st = .ok w st1) (h2 : f w ρ = some ρ') : xAsg fe f ρ st = .nx ρ' st1 := by
  unfold xAsg; rw [h]; simp only [R.stmt_ok]; rw [h2]
theorem in_12 {b : Nat} (h : b ≤ 3) (st : List Cell) : wIn false (.int b) (.tup [.int 1, .int 2]) st = .ok (.bl (decide (b = 1 ∨ b = 2))) st := by
  obtain rfl | rfl | rfl | rfl : b = 0 ∨ b = 1 ∨ b = 2 ∨ b = 3 := by omega
  all_goals rfl
theorem sum_ones (l : List Nat) : (((l.map fun c => [c])).map List.length).sum = l.length := by
  induction l with
  | nil => rfl
  | cons x r ih => simp only [List.map_cons, List.sum_cons, List.length_cons, ih, List.length_nil]; omega
def srt (l : List Nat) : List Nat := joinN [] (sortT (l.map fun c => [c]))
theorem srt_len (l : List Nat) : (srt l).length = l.length := by
  unfold srt; rw [joinN_nil, List.length_flatten, sum_perm (sortT_perm _), sum_ones]
theorem k_sortS {fe : FE} {ρ : EnvW} {st s1 : List Cell} {l : List Nat} (h : fe ρ st = .ok (.str l) s1) (hl : l.length < 64) :
    eMS mJoin (eC (.str [])) (aCons (eCall bSortA (aCons fe aNil)) aNil) ρ st = .ok (.str (srt l)) (s1 ++ [.lst ((sortT (l.map fun c => [c])).map W.str)]) := by
  have hs : bSortA [.str l] s1 = .ok (.loc s1.length) (s1 ++ [.lst ((sortT (l.map fun c => [c])).map W.str)]) := by unfold bSortA; simp only; rw [if_pos hl]
  have hcell2 : lstOf (s1 ++ [Cell.lst ((sortT (l.map fun c => [c])).map W.str)]) s1.length = some ((sortT (l.map fun c => [c])).map W.str) := lstOf_l (by rw [cell_at0]; rfl)
  have hj := o_join (sep := []) hcell2 (by rw [sum_perm (sortT_perm _), sum_ones]; show _ ≤ 1000000; simp; omega)
  exact k_ms k_C rfl (k_cons (k_call (k_cons h k_nil) hs) k_nil) hj
theorem near_ok {t : List Pl} {i : Nat} (h : Wd t i) (hi : i ≤ 2) {st : List Cell} {nw : Nat} {d0 d1 d2 d3 d4 d5 : Int} (hw : st[nw]? = some (.lst ([d0, d1, d2, d3, d4, d5].map W.int))) {pool : List Nat} (hpl : pool.length ≤ 50) : ∃ t', Wd t' (i + 1) ∧ f__law_near [trW t, .str pool, .loc nw] st = .ok (trW t') st := by
  suffices hh : Sat (rtP fun w st' => (∃ x, st' = st ++ x) ∧ undWs st.length [w] = true ∧ ∃ t', w = trW t' ∧ Wd t' (i + 1)) (g__law_near ([trW t, .str pool, .loc nw].map some ++ List.replicate (11 - 3) none) st) by
    obtain ⟨w, ⟨t', rfl, h1⟩, e⟩ := run_val hh
    exact ⟨t', h1, e⟩
  have hl := h.len
  have i1 : wIx (.loc nw) (.int 1) st = .ok (.int d1) st := o_ixL (lstOf_l hw) rfl
  have i2 : wIx (.loc nw) (.int 2) st = .ok (.int d2) st := o_ixL (lstOf_l hw) rfl
  have i3 : wIx (.loc nw) (.int 3) st = .ok (.int d3) st := o_ixL (lstOf_l hw) rfl
  have i4 : wIx (.loc nw) (.int 4) st = .ok (.int d4) st := o_ixL (lstOf_l hw) rfl
  have i5 : wIx (.loc nw) (.int 5) st = .ok (.int d5) st := o_ixL (lstOf_l hw) rfl
  have ln := tr_len t st
  have fin : ∀ (t' : List Pl) (z : List Cell), Ex st z → Wd t' (i + 1) → (rtP fun w st' => (∃ x, st' = st ++ x) ∧ undWs st.length [w] = true ∧ ∃ t', w = trW t' ∧ Wd t' (i + 1)) (.rt (trW t') z) := fun t' z hE hW => ⟨_, _, rfl, hE, und1 _ _, t', rfl, hW⟩
  have E0 : Ex st st := ⟨[], by simp⟩
  by_cases h0 : t.length = 0
  · have t1 : ((t.length : Int) == 0) = true := beq_iff_eq.mpr (by omega)
    apply sat_seq_t
    · exact k_asB (k_2 (k_call kn ln) k_C (o_eqI t1))
    apply sat_seq_ret
    · exact k_var rfl
    · exact fin _ _ E0 (h.mono (by omega))
  have t1 : ((t.length : Int) == 0) = false := beq_eq_false_iff_ne.mpr (by omega)
  apply sat_seq_f
  · exact k_asB (k_2 (k_call kn ln) k_C (o_eqI t1))
  apply sat_next
  obtain ⟨q, hq, eq⟩ := mod_nat (q := d1 + 64 * d2) (n := t.length) (by omega)
  apply sat_seq
  · exact k_set (k_2 (k_2 (k_2 kv k_C i1) (k_2 k_C (k_2 kv k_C i2) (o_mulI (.inl (by decide)))) o_addI) (k_call kn ln) (o_II (by show (0 : Int) < _; omega)))
  rw [eq]
  obtain ⟨p, hpp⟩ : ∃ p, t[q]? = some p := ⟨_, List.getElem?_eq_getElem hq⟩
  have b3 := (h.wk q p hpp).1
  have hm := h.mks p (List.mem_of_getElem? hpp)
  apply sat_seq
  · exact k_asg (ρ' := [some (trW t), some (.str pool), some (.loc nw), some (.int q), some (.int p.b), some (.str p.m), none, none, none, none, none]) (k_2 kv kv (tr_ix hpp st)) rfl
  have tq : ∀ (c : Int) (k : Bool), (d3 % 4 == c) = k → asB (e2 wEq (e2 wMod (e2 wIx (eVar 2) (eC (.int 3))) (eC (.int 4))) (eC (.int c))) [some (trW t), some (.str pool), some (.loc nw), some (.int q), some (.int p.b), some (.str p.m), none, none, none, none, none] st = .ok k st := fun c k hk => k_asB (k_2 (k_2 (k_2 kv k_C i3) k_C (o_II (by decide))) k_C (o_eqI hk))
  by_cases c0 : d3 % 4 = 0
  · apply sat_seq_t
    · exact tq 0 true (beq_iff_eq.mpr c0)
    obtain ⟨m, hm1, em⟩ := marks_ok pool hpl (d4 % 16) st
    apply sat_seq_ret
    · exact put_ok (b := p.b) rfl rfl hq hl kv (k_def (k_cons kv (k_cons (k_2 (k_2 kv k_C i4) k_C (o_II (by decide))) k_nil)) em rfl)
    · exact fin _ _ E0 (h.put hpp b3 rfl (by omega) (by omega))
  apply sat_seq_f
  · exact tq 0 false (beq_eq_false_iff_ne.mpr c0)
  apply sat_next
  by_cases c1 : d3 % 4 = 1 ∧ (p.b = 1 ∨ p.b = 2)
  · apply sat_seq_t
    · exact k_bnd_t (tq 1 true (beq_iff_eq.mpr c1.1)) (k_asB (k_2 kv (k_tup (k_cons k_C (k_cons k_C k_nil)) (Nat.le_of_ble_eq_true rfl)) (by rw [in_12 b3, decide_eq_true c1.2])))
    apply sat_seq_ret
    · exact put_ok (b := 3 - p.b) rfl rfl hq hl (by rw [show ((3 - p.b : Nat) : Int) = 3 - (p.b : Int) by omega]; exact k_2 k_C kv (o_II trivial)) kv
    · exact fin _ _ E0 (h.put hpp (by omega) (by rcases c1.2 with e | e <;> rw [e]) (by omega) (by omega))
  apply sat_seq_f
  · by_cases c : d3 % 4 = 1
    · exact k_bnd_t (tq 1 true (beq_iff_eq.mpr c)) (k_asB (k_2 kv (k_tup (k_cons k_C (k_cons k_C k_nil)) (Nat.le_of_ble_eq_true rfl)) (by rw [in_12 b3, decide_eq_false fun e => c1 ⟨c, e⟩])))
    · exact k_bnd_f (tq 1 false (beq_eq_false_iff_ne.mpr c))
  apply sat_next
  by_cases c2 : d3 % 4 = 2 ∧ p.b = 3
  · have t3 : ((p.b : Int) == 3) = true := beq_iff_eq.mpr (by omega)
    apply sat_seq_t
    · exact k_bnd_t (tq 2 true (beq_iff_eq.mpr c2.1)) (k_asB (k_2 kv k_C (o_eqI t3)))
    obtain ⟨S, sz, lk, g⟩ := h.gr
    obtain ⟨S1, S2, p', k, x, g1, q1, q2, q3, hs, g2⟩ := g.step q hq
    have : p' = p := by rw [hpp] at q1; exact (Option.some.inj q1).symm
    subst this
    obtain ⟨b, m⟩ := p'
    have hb : b = 3 := c2.2
    subst hb
    have ss := gr_ss g1
    obtain ⟨lz, ll, ha⟩ := g1.ok
    have hti : (t.take q).length = q := by rw [List.length_take]; omega
    rw [hti] at ha lz
    cases hs with
    | @b c a S =>
      obtain ⟨X, C, eX, lC, hC, Y, A, rfl, lA, hA, hY⟩ := ss
      have z1 : sz[q - 1]? = some c := by
        have := ha.1
        have h1 := ha.2.1
        have h2 := ha.2.2.1
        rw [List.getElem?_take] at this
        split at this
        · exact this
        · cases this
      have et : t = Y ++ A ++ C ++ t.drop q := by rw [← eX, List.take_append_drop]
      have lq : q = Y.length + A.length + C.length := by rw [← hti, eX]; simp; omega
      obtain ⟨Z, hZ⟩ : ∃ Z, Z = t.drop q := ⟨_, rfl⟩
      rw [← hZ] at et
      have sw : Wd (Y ++ (C ++ A) ++ Z) (i + 1) := (Wd.swap (by rw [← et]; exact h) hA hC).mono (by omega)
      have ez := lsizes_ok g (by omega) st
      have x1 := sz_ix (st := st) [] z1
      have x2 := sz_ix (st := st) [] q2
      rw [show ((q - 1 : Nat) : Int) = (q : Int) - 1 by have := ha.2.1; have := ha.2.2.1; omega] at x1
      have lt := congrArg List.length et
      simp only [List.length_append] at lt
      have dC : (t.drop (Y.length + A.length)).take (q - (Y.length + A.length)) = C := by
        rw [et, lq, show Y.length + A.length = (Y ++ A).length by simp, List.append_assoc (Y ++ A), List.drop_left, show (Y ++ A).length + C.length - (Y ++ A).length = C.length by omega, List.take_left]
      have dA : (t.drop Y.length).take (Y.length + A.length - Y.length) = A := by
        rw [et, List.append_assoc, List.append_assoc, List.drop_left, show Y.length + A.length - Y.length = A.length by omega, List.take_left]
      have dY : t.take Y.length = Y := by
        rw [et, List.append_assoc, List.append_assoc, List.take_left]
      have y1 := tr_cut (a := t) (i := Y.length + A.length) (j := q) (by omega) (by omega) (st ++ [.lst (inS' sz)])
      have y2 := tr_cut (a := t) (i := Y.length) (j := Y.length + A.length) (by omega) (by omega) (st ++ [.lst (inS' sz)])
      have y3 := tr_pre (a := t) (q := Y.length) (by omega) (st ++ [.lst (inS' sz)])
      have y4 := tr_suf (a := t) (q := q) (by omega) (st ++ [.lst (inS' sz)])
      rw [dC] at y1
      rw [dA] at y2
      rw [dY] at y3
      rw [← hZ] at y4
      have v7 : ∀ o4 o5, e2 wSub (eVar 3) (e2 wIx (eVar 6) (e2 wSub (eVar 3) (eC (.int 1)))) [some (trW t), some (.str pool), some (.loc nw), some (.int q), o4, o5, some (.loc st.length), none, none, none, none] (st ++ [.lst (inS' sz)]) = .ok (.int ((Y.length + A.length : Nat) : Int)) (st ++ [.lst (inS' sz)]) := fun o4 o5 => by
        rw [show ((Y.length + A.length : Nat) : Int) = (q : Int) - (c : Int) by omega]
        exact k_2 kv (k_2 kv (k_2 kv k_C (o_II trivial)) x1) (o_II trivial)
      have v8 : ∀ o4 o5 o7, e2 wSub (e2 wAdd (eVar 3) (eC (.int 1))) (e2 wIx (eVar 6) (eVar 3)) [some (trW t), some (.str pool), some (.loc nw), some (.int q), o4, o5, some (.loc st.length), o7, none, none, none] (st ++ [.lst (inS' sz)]) = .ok (.int ((Y.length : Nat) : Int)) (st ++ [.lst (inS' sz)]) := fun o4 o5 o7 => by
        rw [show ((Y.length : Nat) : Int) = (q : Int) + 1 - ((1 + c + a : Nat) : Int) by omega]
        exact k_2 (k_2 kv k_C o_addI) (k_2 kv kv x2) (o_II trivial)
      apply sat_assoc
      apply sat_seq
      · exact k_set (k_def kn ez rfl)
      apply sat_assoc
      apply sat_seq
      · exact k_set (v7 _ _)
      apply sat_assoc
      apply sat_seq
      · exact k_set (v8 _ _ _)
      apply sat_assoc
      apply sat_seq
      · exact k_set (k_2 (k_sl kv (k_oS kv) (k_oS kv) y1) (k_sl kv (k_oS kv) (k_oS kv) y2) (tr_app _ _ (by simp; omega) _))
      apply sat_seq_ret
      · exact k_2 (k_2 (k_sl kv k_oN (k_oS kv) y3) kv (tr_app _ _ (by simp; omega) _)) (k_sl kv (k_oS kv) k_oN y4) (tr_app _ _ (by simp; omega) _)
      · exact fin _ _ ⟨_, rfl⟩ sw
  apply sat_seq_f
  · by_cases c : d3 % 4 = 2
    · exact k_bnd_t (tq 2 true (beq_iff_eq.mpr c)) (k_asB (k_2 kv k_C (o_eqI (beq_eq_false_iff_ne.mpr (by omega)))))
    · exact k_bnd_f (tq 2 false (beq_eq_false_iff_ne.mpr c))
  apply sat_next
  by_cases c3 : d3 % 4 = 3 ∧ 0 < d4 % 4
  · have t3 : decide ((0 : Int) < d4 % 4) = true := decide_eq_true c3.2
    apply sat_seq_t
    · exact k_bnd_t (tq 3 true (beq_iff_eq.mpr c3.1)) (k_asB (k_2 (k_2 (k_2 kv k_C i4) k_C (o_II (by decide))) k_C (o_cmp t3)))
    obtain ⟨r, hr, er⟩ := mod_nat (q := d5) (n := 52) (by omega)
    obtain ⟨l, hl1⟩ : ∃ l, LL[r]? = some l := ⟨_, List.getElem?_eq_getElem (show r < LL.length from hr)⟩
    have hix := o_ixS (st := st) (l := LL) (Nat.le_of_ble_eq_true rfl) (at_nat hl1)
    rw [← er] at hix
    apply sat_assoc
    apply sat_seq
    · exact k_set (k_2 (k_def (ws := []) k_nil (letters_ok st) rfl) (k_2 (k_2 kv k_C i5) k_C (o_II (by decide))) hix)
    apply sat_assoc
    by_cases hin : l ∈ p.m
    · apply sat_seq_t
      · exact k_asB (k_2 kv kv (by rw [o_inS, decide_eq_true hin]))
      apply sat_seq
      · exact k_set (k_repl kv kv (by show _ ≤ 1000000; omega))
      apply sat_seq_ret
      · exact put_ok (b := p.b) rfl rfl hq hl kv kv
      · exact fin _ _ E0 (h.put hpp b3 rfl (Nat.le_trans (List.length_filter_le _ _) (by omega)) (by omega))
    · apply sat_seq_f
      · exact k_asB (k_2 kv kv (by rw [o_inS, decide_eq_false hin]))
      apply sat_seq
      · exact k_set (k_sortS (k_2 kv kv (o_addS (by simp; show _ ≤ 1000000; omega))) (by simp; omega))
      apply sat_seq_ret
      · exact put_ok (b := p.b) rfl rfl hq hl kv kv
      · exact fin _ _ ⟨_, rfl⟩ (h.put hpp b3 rfl (by rw [srt_len]; simp; omega) (by omega))
  apply sat_seq_f
  · by_cases c : d3 % 4 = 3
    · exact k_bnd_t (tq 3 true (beq_iff_eq.mpr c)) (k_asB (k_2 (k_2 (k_2 kv k_C i4) k_C (o_II (by decide))) k_C (o_cmp (decide_eq_false fun e => c3 ⟨c, e⟩))))
    · exact k_bnd_f (tq 3 false (beq_eq_false_iff_ne.mpr c))
  apply sat_next
  apply sat_ret
  · exact k_var rfl
  · exact fin _ _ E0 (h.mono (by omega))
end P
set_option Elab.async false
set_option linter.all false
set_option maxRecDepth 100000
set_option maxHeartbeats 4000000
namespace P
open PySem L2
def KK (t : List Pl) : List Int := (kst t).headD [0]
theorem ahead_ok {t u : List Pl} {i j : Nat} (ht : Wd t i) (hu : Wd u j) (st : List Cell) : f_comes_ahead [trW t, trW u] st = .ok (.bl (HT.lexLt (KK t) (KK u))) st := by
  obtain ⟨a, x, e1, c1⟩ := key_of_ok ht.wk ht.one (by have := ht.len; omega) st
  obtain ⟨b, y, e2', c2⟩ := key_of_ok hu.wk hu.one (by have := hu.len; omega) (st ++ x)
  refine run_is (N := 2) (ws := [trW t, trW u]) (body := g_comes_ahead) ?_ rfl
  apply sat_ret
  · exact k_2 (k_def kn e1 rfl) (k_def kn e2' rfl) (o_ltL (i := KK t) (j := KK u) (lstOf_l (cell_old c1)) (lstOf_l c2))
  · exact ⟨_, _, rfl, rfl, _, by rw [List.append_assoc]⟩
theorem keysW {L : Nat} {ws : List W} : ∀ (ts : List (List Pl)) (acc : List W) (z : List Cell), (∀ t ∈ ts, Wk0 t ∧ t.length ≤ 200) → z[L]? = some (.lst ws) →
    ∃ (x : List Cell) (qs : List Nat), compW (gNm 0) fYes (eDef 1 f__law_key (aCons (eVar 0) aNil)) (some (L, ws)) [none] (ts.map trW) acc z = .ok (acc ++ qs.map W.loc) (z ++ x) ∧ qs.length = ts.length ∧ ∀ (j q : Nat) (t : List Pl), qs[j]? = some q → ts[j]? = some t → (z ++ x)[q]? = some (.lst ((KK t).map W.int))
  | [], acc, z, _, hc => ⟨[], [], by rw [List.map_nil, List.map_nil, List.append_nil, List.append_nil]; unfold compW; exact if_pos (show chkOk z (some (L, ws)) from lstOf_l hc), rfl, fun j q t e => by simp at e⟩
  | t :: ts, acc, z, h, hc => by
    obtain ⟨h1, h2⟩ := h t (List.mem_cons_self ..)
    obtain ⟨a, x, e1, c1⟩ := key_ok h1 h2 z
    obtain ⟨y, qs, e3, l3, c3⟩ := keysW ts (acc ++ [.loc a]) (z ++ x) (fun u hu => h u (List.mem_cons_of_mem _ hu)) (cell_old hc)
    have e4 : eDef 1 f__law_key (aCons (eVar 0) aNil) [some (trW t)] z = .ok (.loc a) (z ++ x) := k_def kn e1 rfl
    refine ⟨x ++ y, a :: qs, ?_, by rw [List.length_cons, List.length_cons, l3], fun j q u e f => ?_⟩
    · rw [List.map_cons]
      unfold compW
      rw [if_pos (show chkOk z (some (L, ws)) from lstOf_l hc)]
      simp only [show gNm 0 (trW t) [none] = some [some (trW t)] from rfl, fYes, e4]
      rw [e3, List.map_cons, ← List.append_assoc z, List.append_assoc acc]; rfl
    · rw [← List.append_assoc]
      cases j with
      | zero => cases e; cases f; exact cell_old c1
      | succ j => exact c3 j q u e f
theorem k_keys {L : Nat} {ρ : EnvW} {ts : List (List Pl)} {z : List Cell} (hv : ρ[2]? = some (some (.loc L))) (h : ∀ t ∈ ts, Wk0 t ∧ t.length ≤ 200) (hl : ts.length ≤ 3) (hc : z[L]? = some (.lst (ts.map trW))) :
    ∃ (x : List Cell) (qs : List Nat), eComp [none] (itAny (eVar 2)) (gNm 0) fYes (eDef 1 f__law_key (aCons (eVar 0) aNil)) ρ z = .ok (.loc (z ++ x).length) (z ++ x ++ [.lst (qs.map W.loc)]) ∧ qs.length = ts.length ∧ ∀ (j q : Nat) (t : List Pl), qs[j]? = some q → ts[j]? = some t → (z ++ x)[q]? = some (.lst ((KK t).map W.int)) := by
  obtain ⟨x, qs, e, h1, h2⟩ := keysW (L := L) (ws := ts.map trW) ts [] z h hc
  refine ⟨x, qs, ?_, h1, h2⟩
  unfold eComp
  rw [i_any_l (k_var hv) (lstOf_l hc)]
  simp only [R.bind_ok]
  rw [if_pos (by rw [List.length_map]; show _ ≤ 1000000; omega), show capW [none] ρ = [none] from rfl, e]
  simp only [R.bind_ok, List.nil_append, mkLst]
  rw [if_pos (by rw [List.length_map]; show _ ≤ 1000000; omega)]
theorem sat_forE {ρ : EnvW} {st st1 : List Cell} {P : RS → Prop} {fi : FI} {f : FG} {body : FS} {k : Walk} (I : Nat → EnvW → List Cell → Prop) (h : fi ρ st = .ok k st1) (h0 : I 0 ρ st1) (hc : ∀ i ρ st, I i ρ st → chkOk st k.2)
    (hs : ∀ i w ρ st, k.1[i]? = some w → I i ρ st → ∃ ρ', f w ρ = some ρ' ∧ Sat (nxP (I (i + 1))) (body ρ' st)) (he : ∀ ρ st, I k.1.length ρ st → P (.nx ρ st)) : Sat P (xFor fi f body ρ st) := by
  obtain ⟨ρ2, st2, e, h2⟩ := forW_inv (f := f) (body := body) (ck := k.2) I (ws := k.1) (ρ := ρ) (st := st1) 0 h0 hc fun i w ρ st hw hI => by
    rw [Nat.zero_add] at hI ⊢
    obtain ⟨ρ', e1, ρ2, st2, e2, h2⟩ := hs i w ρ st hw hI
    exact ⟨ρ', ρ2, st2, e1, e2, h2⟩
  rw [Nat.zero_add] at h2
  rw [xFor_nx h, e]; exact he _ _ h2
theorem range3 {ρ : EnvW} {z : List Cell} : itRange1 (aCons (eC (.int 3)) aNil) ρ z = .ok (rangeW 0 3, none) z := i_range1 (q := 3) (k_cons k_C k_nil) (by decide)
theorem list6 {ds : List Int} (h : ds.length = 6) : ∃ d0 d1 d2 d3 d4 d5, ds = [d0, d1, d2, d3, d4, d5] := by
  match ds, h with
  | [d0, d1, d2, d3, d4, d5], _ => exact ⟨d0, d1, d2, d3, d4, d5, rfl⟩
theorem law_ok : LawOk f_law := by
  intro ns hn
  obtain ⟨st, hst⟩ : ∃ st, st = ([Cell.ro (ns.map W.int)] : List Cell) := ⟨_, rfl⟩
  have h0 : st[0]? = some (.ro (ns.map W.int)) := by rw [hst]; rfl
  rw [← hst]
  have cz : ∀ (k : Int) {z : List Cell}, Ex st z → ∃ c, f__law_cell [.loc 0, .int k] z = .ok (.int c) z := fun k z hE => by
    obtain ⟨x, rfl⟩ := hE
    exact cell_ok (cell_old h0) k
  obtain ⟨c0, e0⟩ := cz 0 (z := st) ⟨[], by simp⟩
  obtain ⟨pool, hpl, _, ep⟩ := pool_ok c0 100003 4 (by omega) st
  have ep : f__law_pool [.int c0, .int 4, .int 100003] st = _ := ep
  refine ⟨st, run_is (N := 9) (ws := [.loc 0]) (body := g_law) ?_ rfl⟩
  apply sat_seq
  · exact k_set (k_def (k_cons (k_def (k_cons kv (k_cons k_C k_nil)) e0 rfl) (k_cons k_C (k_cons k_C k_nil))) ep rfl)
  apply sat_seq
  · (walk_at "evs")
  obtain ⟨L, hL⟩ : ∃ L, L = st.length := ⟨_, rfl⟩
  rw [← hL]
  refine sat_for (fun i ρ z => ∃ (ts : List (List Pl)) (o3 o4 o5 o6 : Option W), ρ = [some (.loc 0), some (.str pool), some (.loc L), o3, o4, o5, o6, none, none] ∧ ts.length = i ∧ (∀ (j : Nat) (t : List Pl), ts[j]? = some t → Wd t j) ∧ z[L]? = some (.lst (ts.map trW)) ∧ Ex st z) range3
    ⟨[], none, none, none, none, rfl, rfl, fun j t e => by simp at e, by rw [hL, cell_at0]; rfl, ⟨_, rfl⟩⟩ (fun _ _ _ _ => trivial) ?_ ?_
  · rintro i w ρ z hw ⟨ts, o3, o4, o5, o6, rfl, hlen, hts, hcl, hE⟩
    obtain ⟨hi, rfl⟩ := rangeW_at hw
    refine ⟨[some (.loc 0), some (.str pool), some (.loc L), some (.int (0 + (i : Int))), o4, o5, o6, none, none], rfl, ?_⟩
    obtain ⟨c1, e1⟩ := cz (3 * (0 + (i : Int)) + 2) hE
    obtain ⟨q, hq, eq⟩ := lsize_ok c1 (200017 + 20011 * (0 + (i : Int))) 100 (by omega) z
    have eq : f__law_size [.int c1, .int (200017 + 20011 * (0 + (i : Int))), .int 100] z = _ := eq
    obtain ⟨c2, e2'⟩ := cz (3 * (0 + (i : Int)) + 1) hE
    obtain ⟨ds, hdl, hdp, ed⟩ := draws_ok c2 (310019 + 20011 * (0 + (i : Int))) q (by omega) z
    obtain ⟨z1, hz1⟩ : ∃ z1, z1 = z ++ [Cell.lst (ds.map W.int)] := ⟨_, rfl⟩
    rw [← hz1] at ed
    have hE1 : Ex st z1 := by rw [hz1]; exact hE.app
    obtain ⟨c3, e3⟩ := cz (3 * (0 + (i : Int)) + 3) hE1
    obtain ⟨ws, hwl, hwp, ew⟩ := draws_ok c3 (400009 + 30011 * (0 + (i : Int))) 6 (by omega) z1
    have ew : f__law_draws [.int c3, .int 6, .int (400009 + 30011 * (0 + (i : Int)))] z1 = _ := ew
    obtain ⟨z2, hz2⟩ : ∃ z2, z2 = z1 ++ [Cell.lst (ws.map W.int)] := ⟨_, rfl⟩
    rw [← hz2] at ew
    have hE2 : Ex st z2 := by rw [hz2]; exact hE1.app
    have hd2 : z2[z.length]? = some (.lst (ds.map W.int)) := by rw [hz2, hz1]; exact cell_old (by rw [cell_at0]; rfl)
    have hw2 : z2[z1.length]? = some (.lst (ws.map W.int)) := by rw [hz2, cell_at0]; rfl
    have hc2 : z2[L]? = some (.lst (ts.map trW)) := by rw [hz2, hz1]; exact cell_old (cell_old hcl)
    apply sat_seq
    · exact k_set (k_def (k_cons (k_def (k_cons kv (k_cons (k_2 (k_2 k_C kv (o_mulI (.inl (by decide)))) k_C o_addI) k_nil)) e1 rfl) (k_cons (k_2 k_C (k_2 k_C kv (o_mulI (.inl (by decide)))) o_addI) (k_cons k_C k_nil))) eq rfl)
    apply sat_seq
    · exact k_set (k_def (k_cons (k_def (k_cons kv (k_cons (k_2 (k_2 k_C kv (o_mulI (.inl (by decide)))) k_C o_addI) k_nil)) e2' rfl) (k_cons kv (k_cons (k_2 k_C (k_2 k_C kv (o_mulI (.inl (by decide)))) o_addI) k_nil))) ed rfl)
    apply sat_seq
    · exact k_set (k_def (k_cons (k_def (k_cons kv (k_cons (k_2 (k_2 k_C kv (o_mulI (.inl (by decide)))) k_C o_addI) k_nil)) e3 rfl) (k_cons k_C (k_cons (k_2 k_C (k_2 k_C kv (o_mulI (.inl (by decide)))) o_addI) k_nil))) ew rfl)
    obtain ⟨d0, d1, d2, d3, d4, d5, rfl⟩ := list6 hwl
    have i0 : wIx (.loc z1.length) (.int 0) z2 = .ok (.int d0) z2 := o_ixL (lstOf_l hw2) rfl
    have fin : ∀ t', Wd t' i → nxP (fun ρ z => ∃ (ts : List (List Pl)) (o3 o4 o5 o6 : Option W), ρ = [some (.loc 0), some (.str pool), some (.loc L), o3, o4, o5, o6, none, none] ∧ ts.length = i + 1 ∧ (∀ (j : Nat) (t : List Pl), ts[j]? = some t → Wd t j) ∧ z[L]? = some (.lst (ts.map trW)) ∧ Ex st z)
        (.nx [some (.loc 0), some (.str pool), some (.loc L), some (.int (0 + (i : Int))), some (.int q), some (.loc z.length), some (.loc z1.length), none, none] (z2.set L (.lst (ts.map trW ++ [trW t'])))) := fun t' ht' => by
      refine ⟨_, _, rfl, ts ++ [t'], _, _, _, _, rfl, by rw [List.length_append, hlen]; rfl, fun j t e => ?_, by rw [set_same hc2, List.map_append]; rfl, hE2.set (by omega)⟩
      rcases Nat.lt_or_ge j ts.length with z | z
      · rw [List.getElem?_append_left z] at e; exact hts j t e
      · have : j = ts.length := by have := (List.getElem?_eq_some_iff.mp e).1; rw [List.length_append, List.length_singleton] at this; omega
        subst this
        rw [List.getElem?_concat_length] at e
        cases e
        rw [hlen]; exact ht'
    have ap : ∀ t', mAppend (.loc L) [trW t'] z2 = .ok .non (z2.set L (.lst (ts.map trW ++ [trW t']))) := fun t' => o_app hc2 (by rw [List.length_map]; show _ < 1000000; omega)
    by_cases c : 0 < i ∧ 0 < d0 % 3
    · have t1 : decide ((0 : Int) < 0 + (i : Int)) = true := decide_eq_true (by omega)
      have t2 : decide ((0 : Int) < d0 % 3) = true := decide_eq_true c.2
      obtain ⟨t, ht⟩ : ∃ t, ts[i - 1]? = some t := ⟨_, List.getElem?_eq_getElem (by omega)⟩
      obtain ⟨t', ht', en⟩ := near_ok (hts _ t ht) (by omega) hw2 (pool := pool) (by omega)
      rw [show i - 1 + 1 = i by omega] at ht'
      have it : wIx (.loc L) (.int (0 + (i : Int) - 1)) z2 = .ok (trW t) z2 := o_ixL (lstOf_l hc2) (by rw [show (0 + (i : Int) - 1) = ((i - 1 : Nat) : Int) by omega]; exact at_nat (by rw [List.getElem?_map, ht]; rfl))
      apply sat_t
      · exact k_bnd_t (k_asB (k_2 kv k_C (o_cmp t1))) (k_asB (k_2 (k_2 (k_2 kv k_C i0) k_C (o_II (by decide))) k_C (o_cmp t2)))
      apply sat_eq
      · exact k_expr (k_ml kv (k_isLst hc2) (k_cons (k_def (k_cons (k_2 kv (k_2 kv k_C (o_II trivial)) it) (k_cons kv kn)) en rfl) k_nil) (ap t'))
      · exact fin t' ht'
    · obtain ⟨ps, S, sz, lk, g, g1, g2, g3, eg⟩ := wood_ok hd2 hdp (pool := pool) (by omega)
      have hW : Wd ps 0 := gr_wd g g2 g1 fun p hp => by have := g3 p hp; omega
      obtain ⟨c4, e4⟩ := cz (10 + (0 + (i : Int))) hE2
      obtain ⟨t', ht', em⟩ := marked_ok hW c4 (500009 + 40009 * (0 + (i : Int))) z2
      apply sat_f
      · by_cases c' : 0 < i
        · exact k_bnd_t (k_asB (k_2 kv k_C (o_cmp (decide_eq_true (by omega))))) (k_asB (k_2 (k_2 (k_2 kv k_C i0) k_C (o_II (by decide))) k_C (o_cmp (decide_eq_false fun e => c ⟨c', e⟩))))
        · exact k_bnd_f (k_asB (k_2 kv k_C (o_cmp (decide_eq_false (by omega)))))
      apply sat_eq
      · exact k_expr (k_ml kv (k_isLst hc2) (k_cons (k_def (k_cons (k_def (k_cons kv (k_cons kv (k_cons k_C k_nil))) eg rfl) (k_cons (k_def (k_cons kv (k_cons (k_2 k_C kv o_addI) k_nil)) e4 rfl) (k_cons (k_2 k_C (k_2 k_C kv (o_mulI (.inl (by decide)))) o_addI) k_nil))) em rfl) k_nil) (ap t'))
      · exact fin t' (ht'.mono (by omega))
  rintro ρ z ⟨ts, o3, o4, o5, o6, rfl, hlen, hts, hcl, hE⟩
  have hlen : ts.length = 3 := hlen
  have hall : ∀ t ∈ ts, ∃ j, Wd t j := fun t ht => by
    obtain ⟨j, hj⟩ := List.mem_iff_getElem?.mp ht
    exact ⟨j, hts j t hj⟩
  obtain ⟨x, qs, ek, lk, hk⟩ := k_keys (ρ := [some (.loc 0), some (.str pool), some (.loc L), o3, o4, o5, o6, none, none]) rfl (fun t ht => by obtain ⟨j, h⟩ := hall t ht; exact ⟨h.wk, by have := h.len; omega⟩) (by omega) hcl
  obtain ⟨Z, hZ⟩ : ∃ Z, Z = z ++ x ++ [Cell.lst (qs.map W.loc)] := ⟨_, rfl⟩
  obtain ⟨K, hK⟩ : ∃ K, K = (z ++ x).length := ⟨_, rfl⟩
  rw [← hZ, ← hK] at ek
  have hEZ : Ex st Z := by rw [hZ]; exact hE.app.app
  have hcZ : Z[L]? = some (.lst (ts.map trW)) := by rw [hZ]; exact cell_old (cell_old hcl)
  have hkZ : Z[K]? = some (.lst (qs.map W.loc)) := by rw [hZ, hK, cell_at0]; rfl
  have at3 : ∀ i : Nat, i < 3 → ∃ (t : List Pl) (q : Nat), Wd t i ∧ wIx (.loc L) (.int (0 + (i : Int))) Z = .ok (trW t) Z ∧ wIx (.loc K) (.int (0 + (i : Int))) Z = .ok (.loc q) Z ∧ Z[q]? = some (.lst ((KK t).map W.int)) := fun i hi => by
    obtain ⟨t, ht⟩ : ∃ t, ts[i]? = some t := ⟨_, List.getElem?_eq_getElem (by omega)⟩
    obtain ⟨q, hq⟩ : ∃ q, qs[i]? = some q := ⟨_, List.getElem?_eq_getElem (by omega)⟩
    rw [Int.zero_add]
    exact ⟨t, q, hts i t ht, o_ixL (lstOf_l hcZ) (at_nat (by rw [List.getElem?_map, ht]; rfl)), o_ixL (lstOf_l hkZ) (at_nat (by rw [List.getElem?_map, hq]; rfl)), by rw [hZ]; exact cell_old (hk i q t hq ht)⟩
  apply sat_seq
  · exact k_asg (ρ' := [some (.loc 0), some (.str pool), some (.loc L), o3, o4, o5, o6, some (.loc K), none]) ek rfl
  refine sat_for (fun i ρ s => ∃ (o3 o8 : Option W), ρ = [some (.loc 0), some (.str pool), some (.loc L), o3, o4, o5, o6, some (.loc K), o8] ∧ s = Z) range3 ⟨o3, none, rfl, rfl⟩ (fun _ _ _ _ => trivial) ?_ ?_
  · rintro i w ρ s hw ⟨o3, o8, rfl, rfl⟩
    obtain ⟨hi, rfl⟩ := rangeW_at hw
    obtain ⟨t, q, ht, x1, x2, x3⟩ := at3 i hi
    refine ⟨_, rfl, ?_⟩
    refine sat_forE (fun j ρ s' => ∃ (o8 : Option W), ρ = [some (.loc 0), some (.str pool), some (.loc L), some (.int (0 + (i : Int))), o4, o5, o6, some (.loc K), o8] ∧ s' = s) range3 ⟨o8, rfl, rfl⟩ (fun _ _ _ _ => trivial) ?_ ?_
    · rintro j w ρ s' hw ⟨o8, rfl, rfl⟩
      obtain ⟨hj, rfl⟩ := rangeW_at hw
      obtain ⟨u, r, hu, y1, y2, y3⟩ := at3 j hj
      refine ⟨[some (.loc 0), some (.str pool), some (.loc L), some (.int (0 + (i : Int))), o4, o5, o6, some (.loc K), some (.int (0 + (j : Int)))], rfl, ?_⟩
      apply sat_f
      · exact k_bnt (k_asB (k_def (k_cons (k_def (k_cons (k_2 kv kv x1) (k_cons (k_2 kv kv y1) k_nil)) (ahead_ok ht hu s') rfl) (k_cons (k_2 (k_2 kv kv x2) (k_2 kv kv y2) (o_ltL (lstOf_l x3) (lstOf_l y3))) k_nil)) (same_bool _ 39 s') rfl)) rfl
      apply sat_eq
      · exact k_next
      · exact ⟨_, _, rfl, _, rfl, rfl⟩
    · rintro ρ s' ⟨o8, rfl, rfl⟩
      exact ⟨_, _, rfl, _, _, rfl, rfl⟩
  · rintro ρ s ⟨o3, o8, rfl, rfl⟩
    apply sat_ret
    · (walk_at "evs")
    · exact ⟨_, _, rfl, rfl, hEZ⟩
end P
set_option Elab.async false
set_option linter.all false
set_option maxRecDepth 100000
set_option maxHeartbeats 4000000
namespace P
open PySem L2
theorem all_mk {l : PySem.W.OpenLaw} {w : World} {K : PySem.W.Frag} {h : Heap} {mg : Str → Option Value} {fa : Addr} (X : K.In h) (G : h.Ns mainGlobals mg) (hfa : mg "law" = some (.ref fa))
    {ad_law : Addr} {od_law an_law : Option Addr} {sl_law : Array (Option Value)} {oc_law kV_law dc_law pm_law cd_law ct_law : Value} {q_ALL_LETTERS : Tok}
    (d_letter_of : DefIn K "letter_of" s_letter_of)
    (d_has_left : DefIn K "has_left" s_has_left)
    (d_has_right : DefIn K "has_right" s_has_right)
    (d_key_of : DefIn K "key_of" s_key_of)
    (d_comes_ahead : DefIn K "comes_ahead" s_comes_ahead)
    (d__law_cell : DefIn K "_law_cell" s__law_cell)
    (d__law_mixed : DefIn K "_law_mixed" s__law_mixed)
    (d__law_draws : DefIn K "_law_draws" s__law_draws)
    (d__law_size : DefIn K "_law_size" s__law_size)
    (d__law_same : DefIn K "_law_same" s__law_same)
    (d__law_pool : DefIn K "_law_pool" s__law_pool)
    (d__law_marks : DefIn K "_law_marks" s__law_marks)
    (d__law_wood : DefIn K "_law_wood" s__law_wood)
    (d__law_sizes : DefIn K "_law_sizes" s__law_sizes)
    (d__law_letters : DefIn K "_law_letters" s__law_letters)
    (d__law_weight : DefIn K "_law_weight" s__law_weight)
    (d__law_key : DefIn K "_law_key" s__law_key)
    (d__law_marked : DefIn K "_law_marked" s__law_marked)
    (d__law_near : DefIn K "_law_near" s__law_near)
    (a_law : PySem.W.nsIn K mainGlobals "law" = some (some (.ref ad_law)))
    (l_law : K.lookup ad_law = some ⟨oc_law, od_law, .func (PySem.W.fnOf "law" "law" (defArgs s_law) (defBody s_law) (defScope s_law) .none kV_law dc_law pm_law an_law cd_law ct_law), sl_law⟩)
    (cd_law_ok : PySem.W.codeIn K cd_law "law" = true)
    (k_law : PySem.W.keepIn K (.ref ad_law) = true)
    (z_bool : PySem.W.nsIn K mainGlobals "bool" = some none)
    (z_int : PySem.W.nsIn K mainGlobals "int" = some none)
    (z_isinstance : PySem.W.nsIn K mainGlobals "isinstance" = some none)
    (z_len : PySem.W.nsIn K mainGlobals "len" = some none)
    (z_range : PySem.W.nsIn K mainGlobals "range" = some none)
    (z_sorted : PySem.W.nsIn K mainGlobals "sorted" = some none)
    (z_str : PySem.W.nsIn K mainGlobals "str" = some none)
    (z_tuple : PySem.W.nsIn K mainGlobals "tuple" = some none)
    (a_ALL_LETTERS : PySem.W.nsIn K mainGlobals "ALL_LETTERS" = some (some (.str "ABCDEFGHIJKLMNOPQRSTUVWXYZabcdefghijklmnopqrstuvwxyz" q_ALL_LETTERS))) :
    ∃ fd : FuncData, fd.scope.names.lookup ("_law_script" : Str) = some .local ∧ (∀ (s : Shared) (v : Value), BindsTo s fd ⟨[v], []⟩ [("_law_script", v)]) ∧ ∀ base : Heap, K.In base → base.Ns mainGlobals mg → FnOk l.prog w K mg base (CX1 l.prog w) 41 fa fd p_law (spW K mg 1 f_law) := by
  have e := hfa.symm.trans (PySem.W.mg_of X G a_law)
  cases e
  obtain ⟨_, _, F_letter_of, m_letter_of⟩ := d_letter_of.fn X G
  obtain ⟨_, _, F_has_left, m_has_left⟩ := d_has_left.fn X G
  obtain ⟨_, _, F_has_right, m_has_right⟩ := d_has_right.fn X G
  obtain ⟨_, _, F_key_of, m_key_of⟩ := d_key_of.fn X G
  obtain ⟨_, _, F_comes_ahead, m_comes_ahead⟩ := d_comes_ahead.fn X G
  obtain ⟨_, _, F__law_cell, m__law_cell⟩ := d__law_cell.fn X G
  obtain ⟨_, _, F__law_mixed, m__law_mixed⟩ := d__law_mixed.fn X G
  obtain ⟨_, _, F__law_draws, m__law_draws⟩ := d__law_draws.fn X G
  obtain ⟨_, _, F__law_size, m__law_size⟩ := d__law_size.fn X G
  obtain ⟨_, _, F__law_same, m__law_same⟩ := d__law_same.fn X G
  obtain ⟨_, _, F__law_pool, m__law_pool⟩ := d__law_pool.fn X G
  obtain ⟨_, _, F__law_marks, m__law_marks⟩ := d__law_marks.fn X G
  obtain ⟨_, _, F__law_wood, m__law_wood⟩ := d__law_wood.fn X G
  obtain ⟨_, _, F__law_sizes, m__law_sizes⟩ := d__law_sizes.fn X G
  obtain ⟨_, _, F__law_letters, m__law_letters⟩ := d__law_letters.fn X G
  obtain ⟨_, _, F__law_weight, m__law_weight⟩ := d__law_weight.fn X G
  obtain ⟨_, _, F__law_key, m__law_key⟩ := d__law_key.fn X G
  obtain ⟨_, _, F__law_marked, m__law_marked⟩ := d__law_marked.fn X G
  obtain ⟨_, _, F__law_near, m__law_near⟩ := d__law_near.fn X G
  have F_law := fun_mk (st := s_law) l_law cd_law_ok k_law
  have m_law := PySem.W.mg_of X G a_law
  have B : Bl mg := ⟨PySem.W.mg_none_of X G z_bool, PySem.W.mg_none_of X G z_int, PySem.W.mg_none_of X G z_isinstance, PySem.W.mg_none_of X G z_len, PySem.W.mg_none_of X G z_range, PySem.W.mg_none_of X G z_sorted, PySem.W.mg_none_of X G z_str, PySem.W.mg_none_of X G z_tuple⟩
  have Gg : Gc K mg := ⟨⟨_, .str (tx [65, 66, 67, 68, 69, 70, 71, 72, 73, 74, 75, 76, 77, 78, 79, 80, 81, 82, 83, 84, 85, 86, 87, 88, 89, 90, 97, 98, 99, 100, 101, 102, 103, 104, 105, 106, 107, 108, 109, 110, 111, 112, 113, 114, 115, 116, 117, 118, 119, 120, 121, 122]), PySem.W.mg_of X G a_ALL_LETTERS, ⟨⟨_, fun z => nomatch z⟩, by rw [show Str.ofString "ABCDEFGHIJKLMNOPQRSTUVWXYZabcdefghijklmnopqrstuvwxyz" = tx [65, 66, 67, 68, 69, 70, 71, 72, 73, 74, 75, 76, 77, 78, 79, 80, 81, 82, 83, 84, 85, 86, 87, 88, 89, 90, 97, 98, 99, 100, 101, 102, 103, 104, 105, 106, 107, 108, 109, 110, 111, 112, 113, 114, 115, 116, 117, 118, 119, 120, 121, 122] from by decide +kernel]⟩, fun μ H => .str⟩⟩
  refine ⟨PySem.W.fnOf "law" "law" (defArgs s_law) (defBody s_law) (defScope s_law) .none kV_law dc_law pm_law an_law cd_law ct_law, rfl, fun s v => .of_eq rfl, fun base _ _ => ?_⟩
  have h_letter_of : HasW l.prog w K mg base 1 "letter_of" 2 f_letter_of := hasW_q F_letter_of m_letter_of (ok_letter_of F_letter_of)
  have h_has_left : HasW l.prog w K mg base 1 "has_left" 1 f_has_left := hasW_q F_has_left m_has_left (ok_has_left F_has_left)
  have h_has_right : HasW l.prog w K mg base 1 "has_right" 1 f_has_right := hasW_q F_has_right m_has_right (ok_has_right F_has_right)
  have h_key_of : HasW l.prog w K mg base 2 "key_of" 1 f_key_of := hasW_q F_key_of m_key_of (ok_key_of F_key_of B Gg  h_has_left h_has_right h_letter_of)
  have h_comes_ahead : HasW l.prog w K mg base 3 "comes_ahead" 2 f_comes_ahead := hasW_q F_comes_ahead m_comes_ahead (ok_comes_ahead F_comes_ahead   h_key_of)
  have h__law_cell : HasW l.prog w K mg base 1 "_law_cell" 2 f__law_cell := hasW_q F__law_cell m__law_cell (ok__law_cell F__law_cell B)
  have h__law_mixed : HasW l.prog w K mg base 1 "_law_mixed" 3 f__law_mixed := hasW_q F__law_mixed m__law_mixed (ok__law_mixed F__law_mixed)
  have h__law_draws : HasW l.prog w K mg base 2 "_law_draws" 3 f__law_draws := hasW_q F__law_draws m__law_draws (ok__law_draws F__law_draws B  h__law_mixed)
  have h__law_size : HasW l.prog w K mg base 3 "_law_size" 3 f__law_size := hasW_q F__law_size m__law_size (ok__law_size F__law_size   h__law_draws)
  have h__law_same := has__law_same (P := l.prog) (w := w) (base := base) F__law_same m__law_same B  40
  have h__law_pool : HasW l.prog w K mg base 3 "_law_pool" 3 f__law_pool := hasW_q F__law_pool m__law_pool (ok__law_pool F__law_pool B  h__law_draws)
  have h__law_marks : HasW l.prog w K mg base 1 "_law_marks" 2 f__law_marks := hasW_q F__law_marks m__law_marks (ok__law_marks F__law_marks B)
  have h__law_wood : HasW l.prog w K mg base 2 "_law_wood" 3 f__law_wood := hasW_q F__law_wood m__law_wood (ok__law_wood F__law_wood B  h__law_marks)
  have h__law_sizes : HasW l.prog w K mg base 1 "_law_sizes" 1 f__law_sizes := hasW_q F__law_sizes m__law_sizes (ok__law_sizes F__law_sizes B)
  have h__law_letters : HasW l.prog w K mg base 1 "_law_letters" 0 f__law_letters := hasW_mk (ps := p__law_letters) F__law_letters m__law_letters rfl (fun _ _ _ _ _ _ us hl => by rw [List.length_eq_zero_iff.mp hl]; rfl) (ok__law_letters F__law_letters)
  have h__law_weight : HasW l.prog w K mg base 2 "_law_weight" 1 f__law_weight := hasW_q F__law_weight m__law_weight (ok__law_weight F__law_weight B  h__law_letters)
  have h__law_key : HasW l.prog w K mg base 3 "_law_key" 1 f__law_key := hasW_q F__law_key m__law_key (ok__law_key F__law_key   h__law_weight)
  have h__law_marked : HasW l.prog w K mg base 3 "_law_marked" 3 f__law_marked := hasW_q F__law_marked m__law_marked (ok__law_marked F__law_marked B  h__law_draws h__law_letters)
  have h__law_near : HasW l.prog w K mg base 2 "_law_near" 3 f__law_near := hasW_q F__law_near m__law_near (ok__law_near F__law_near B  h__law_letters h__law_marks h__law_sizes)
  exact ok_law F_law B  h__law_cell h__law_draws h__law_key h__law_marked h__law_near h__law_pool h__law_same h__law_size h__law_wood h_comes_ahead
end P
open PySem PySem.W PyProof.Rows
set_option maxRecDepth 100000 in
set_option maxHeartbeats 0 in
theorem PySem.Challenge.cw_trunksay_k08_order_of_trees_holds : PySem.Challenge.rw_trunksay_k08_order_of_trees.Holds := by
  w_on; o_law; k_head; (case hw => w_witness2)
  k_fill
  refine L2.walkW (l := PySem.Challenge.rw_trunksay_k08_order_of_trees) (k := 41) (x := "_law_script") (G := P.f_law) rfl rfl ⟨rfl, by decide, by decide⟩ (fun w h Y => PySem.W.kIn_of Y) ?F P.law_ok
  case F =>
    intro w mg fa h KX G hmg
    refine' P.all_mk KX G hmg ?_ ?_ ?_ ?_ ?_ ?_ ?_ ?_ ?_ ?_ ?_ ?_ ?_ ?_ ?_ ?_ ?_ ?_ ?_ ?_ ?_ ?_ ?_ ?_ ?_ ?_ ?_ ?_ ?_ ?_ ?_ ?_
    any_goals (refine' L2.DefIn.mk ?a ?l ?c ?k; (case a => k_is); (case l => k_is); (case c => k_is); (case k => k_is))
    any_goals k_is
