import PyProof.Rows.All
import Wide.All
import OpenK.AllK
import Wide.FinOn
import Lean
import PyProof.EqAt
import PyProof.EqKinds
import PyProof.TupleCall
import KE.KIsAll
import PyProof.P3Eq
import PyProof.P3In
import PyProof.NeData
import OpenK.KOwn
import PyProof.ExcBaseAll.ValueError
import KE.KTryMore
import KE.RegKTryMore
import PyProof.DictValues
import PyProof.DictWalks
import PyProof.Rows.CountFlat
import PyProof.RulesAs
import PyProof.ExcArgs
import PySem.Challenge.RW_foxyard_k02_sound_boards
set_option genSizeOf false
noncomputable section
set_option Elab.async false
set_option linter.all false
set_option maxRecDepth 100000
namespace L2
open PySem PySem.Spec PyProof.Rows

/-- a key: an int or a str -/
abbrev Key := Sum Int Str
def keyIs : Key → Value → Bool
  | .inl k, v => Value.isInt k v
  | .inr x, v => Value.isStrOf x v
def keyH (w : World) : Key → Int
  | .inl k => hashInt k
  | .inr x => hashStr w x
theorem keyIs_shape : ∀ {k : Key} {v : Value}, keyIs k v = true → (∃ i t, k = Sum.inl i ∧ v = Value.int i t) ∨ (∃ x t, k = Sum.inr x ∧ v = Value.str x t)
  | .inl i, v, h => by
    obtain ⟨t, e⟩ := Value.isInt_shape (k := i) (v := v) h
    exact .inl ⟨i, t, rfl, e⟩
  | .inr x, v, h => by
    obtain ⟨t, e⟩ := Value.isStrOf_shape (x := x) (v := v) h
    exact .inr ⟨x, t, rfl, e⟩
theorem keyIs_int (i : Int) (t : Tok) : keyIs (.inl i) (.int i t) = true := by simp [keyIs, Value.isInt]
theorem keyIs_str (x : Str) (t : Tok) : keyIs (.inr x) (.str x t) = true := by simp [keyIs, Value.isStrOf]
theorem key_ll (a b : Int) : decide ((Sum.inl a : Key) = Sum.inl b) = (a == b) := by
  by_cases e : a = b
  · subst e; simp
  · have h : ¬ (Sum.inl a : Key) = Sum.inl b := fun q => e (Sum.inl.inj q)
    rw [decide_eq_false h]
    exact (beq_eq_false_iff_ne.mpr e).symm
theorem key_rr (a b : Str) : decide ((Sum.inr a : Key) = Sum.inr b) = decide (a = b) := by
  by_cases e : a = b
  · subst e; simp
  · have h : ¬ (Sum.inr a : Key) = Sum.inr b := fun q => e (Sum.inr.inj q)
    rw [decide_eq_false h, decide_eq_false e]
theorem key_lr (a : Int) (b : Str) : decide ((Sum.inl a : Key) = Sum.inr b) = false := decide_eq_false (fun q => nomatch q)
theorem key_rl (a : Str) (b : Int) : decide ((Sum.inr a : Key) = Sum.inl b) = false := decide_eq_false (fun q => nomatch q)

def mixKind (prog : Program) (w : World) : PySem.KeyKind prog w Key where
  is := keyIs
  hash := keyH w
  inj := fun v a b ha hb => by
    rcases keyIs_shape ha with ⟨i, t, rfl, rfl⟩ | ⟨x, t, rfl, rfl⟩
    · rcases keyIs_shape hb with ⟨j, u, rfl, e⟩ | ⟨y, u, rfl, e⟩
      · injection e with e1 _; rw [e1]
      · exact nomatch e
    · rcases keyIs_shape hb with ⟨j, u, rfl, e⟩ | ⟨y, u, rfl, e⟩
      · exact nomatch e
      · injection e with e1 _; rw [e1]
  byValue := fun k v h => by
    rcases keyIs_shape h with ⟨i, t, rfl, rfl⟩ | ⟨x, t, rfl, rfl⟩ <;> rfl
  pyHash := fun hv h => by
    rcases keyIs_shape hv with ⟨i, t, rfl, rfl⟩ | ⟨x, t, rfl, rfl⟩
    · exact wpAny_pyHash_int h
    · exact wpAny_pyHash_str h
  eqBool := fun hu hv h => by
    rcases keyIs_shape hu with ⟨i, t, rfl, rfl⟩ | ⟨x, t, rfl, rfl⟩
    · rcases keyIs_shape hv with ⟨j, u, rfl, rfl⟩ | ⟨y, u, rfl, rfl⟩
      · rw [key_ll] at h; exact wpAny_eqBool_int h
      · rw [key_lr] at h; exact SeqAt.EqAt.int_str i t y u _ _ _ _ h
    · rcases keyIs_shape hv with ⟨j, u, rfl, rfl⟩ | ⟨y, u, rfl, rfl⟩
      · rw [key_rl] at h; exact SeqAt.EqAt.str_int x t j u _ _ _ _ h
      · rw [key_rr] at h; exact wpAny_eqBool_str h
  «strs» := fun k x t v h => by
    rcases keyIs_shape h with ⟨i, u, rfl, e⟩ | ⟨y, u, rfl, e⟩
    · exact nomatch e
    · injection e with e1 _
      subst e1
      cases v <;> rfl

theorem mixKind_int (prog : Program) (w : World) (i : Int) (t : Tok) : (mixKind prog w).is (.inl i) (.int i t) = true := keyIs_int i t
theorem mixKind_str (prog : Program) (w : World) (x : Str) (t : Tok) : (mixKind prog w).is (.inr x) (.str x t) = true := keyIs_str x t
end L2

namespace L2
open PySem PySem.Spec PyProof.Rows

/-- a value, without the heap -/
inductive V where
  | non | bl (b : Bool) | int (i : Int) | str (x : Str) | byt (b : Array UInt8) | flt (b : UInt64) | ref (a : Addr) | ty (n : String)
  deriving DecidableEq
set_option genInjectivity false


def RelV : V → Value → Prop
  | .non, u => u = Value.none
  | .bl b, u => u = Value.bool b
  | .int i, u => ∃ t, u = Value.int i t
  | .str x, u => ∃ t, u = Value.str x t
  | .byt b, u => ∃ t, u = Value.bytes b t
  | .flt b, u => ∃ t, u = Value.float b t
  | .ref a, u => u = Value.ref a
  | .ty n, u => u = Value.type n

abbrev Vals : List V → List Value → Prop := Paired RelV
theorem Vals.length {xs : List V} {us : List Value} (r : Vals xs us) : xs.length = us.length := Paired.length r
theorem Vals.get : ∀ {xs : List V} {us : List Value} {i : Nat} {x : V}, Vals xs us → xs[i]? = some x → ∃ u, us[i]? = some u ∧ RelV x u
  | _, _, _, _, .nil, e => by simp at e
  | _, _, 0, _, .cons r _, e => by simp at e; subst e; exact ⟨_, rfl, r⟩
  | _, _, i + 1, x, .cons _ t, e => by
    obtain ⟨u, h1, h2⟩ := Vals.get (i := i) (x := x) t (by simpa using e)
    exact ⟨u, by simpa using h1, h2⟩
theorem Vals.set {x : V} {u : Value} (r : RelV x u) : ∀ {xs : List V} {us : List Value} (i : Nat), Vals xs us → Vals (xs.set i x) (us.set i u)
  | _, _, _, .nil => .nil
  | _, _, 0, .cons _ t => .cons r t
  | _, _, i + 1, .cons q t => .cons q (Vals.set r i t)
theorem Vals.append : ∀ {xs ys : List V} {us ws : List Value}, Vals xs us → Vals ys ws → Vals (xs ++ ys) (us ++ ws)
  | _, _, _, _, .nil, s => s
  | _, _, _, _, .cons r t, s => .cons r (Vals.append t s)
theorem Vals.take : ∀ {xs : List V} {us : List Value} (n : Nat), Vals xs us → Vals (xs.take n) (us.take n)
  | _, _, 0, _ => .nil
  | _, _, _ + 1, .nil => .nil
  | _, _, n + 1, .cons r t => .cons r (Vals.take n t)
theorem Vals.drop : ∀ {xs : List V} {us : List Value} (n : Nat), Vals xs us → Vals (xs.drop n) (us.drop n)
  | _, _, 0, r => r
  | _, _, _ + 1, .nil => .nil
  | _, _, n + 1, .cons _ t => Vals.drop n t
def RelO : Option V → Option Value → Prop
  | some v, some u => RelV v u
  | none, none => True
  | _, _ => False
def KV {κ : Type} : List (κ × V) → List (κ × Value) → Prop := Paired fun (p : κ × V) (q : κ × Value) => p.1 = q.1 ∧ RelV p.2 q.2

/-- a key of a dict (00_mix): an int or a text -/
def kV : Key → V
  | .inl i => .int i
  | .inr x => .str x

/-- what stands at a tracked address -/
inductive HO where
  /-- a list -/
  | lst (xs : List V)
  /-- a tuple (never changes) -/
  | tup (xs : List V)
  /-- a dict whose keys are ints and texts; one whose keys are tuples of ints and texts (the empty one is both) -/
  | dK (kvs : List (Key × V)) | dT (kvs : List (List Key × V))
  /-- a set of ints: its members, its size -/
  | set (S : Int → Bool) (n : Nat)
  /-- an instance of the class at C, its dict at dx, its attributes -/
  | ins (C dx : Addr) (fs : List (Str × V))
  /-- the dict of the instance at x -/
  | own (x : Addr)
  /-- the dict of an exception -/
  | xd (fs : List (Str × V))
  /-- a bound method, f of x -/
  | met (f x : Addr)
  /-- a range object lo, lo + 1, .. below hi -/
  | rng (lo hi : Int)
  /-- a thing that is known to the object (the script; a dict while a loop walks it): read, never written while it is so -/
  | frz (o : Obj) (u : HO)
  /-- a code object's table -/
  | tbl (ps : Array Value)
  /-- any other thing, by what is true of its one object (a def of one's own: SetO a S n := HO.ext fun h => ..) -/
  | ext (φ : Heap → Prop)

abbrev Hp := Addr → Option HO
def upd (H : Hp) (a : Addr) (o : HO) : Hp := fun b => if b = a then some o else H b
theorem upd_same {H : Hp} {a : Addr} {o : HO} : upd H a o a = some o := by unfold upd; rw [if_pos rfl]
theorem upd_ne {H : Hp} {a b : Addr} {o : HO} (h : b ≠ a) : upd H a o b = H b := by unfold upd; rw [if_neg h]
/-- two objects of different content stand apart -/
theorem ne_of {H : Hp} {a b : Addr} {o u : HO} (h : H a = some o) (h' : H b = some u) (d : o ≠ u) : a ≠ b := by
  intro e; subst e; rw [h] at h'; exact d (Option.some.inj h')
theorem ne_of_none {H : Hp} {a b : Addr} {o : HO} (h : H a = some o) (h' : H b = none) : a ≠ b := by
  intro e; subst e; rw [h] at h'; cases h'

section
variable (P : Program) (w : World)
def ObjOk (H : Hp) (h : Heap) (a : Addr) : HO → Prop
  | .lst xs => xs.length ≤ sizeLine ∧ ∃ (its : List Value) (n : Nat), Vals xs its ∧ h.get? a = some { cls := .type "list", data := .seq its.toArray n }
  | .tup xs => xs.length ≤ sizeLine ∧ ∃ its : List Value, Vals xs its ∧ IsTup h a its.toArray
  | .dK kvs => kvs.length ≤ sizeLine ∧ (a == sysModules) = false ∧ ∃ vs, KV kvs vs ∧ h.DictOf (mixKind P w) a vs
  | .dT kvs => kvs.length ≤ sizeLine ∧ (a == sysModules) = false ∧ ∃ xs : List (List Key × Addr × Value),
      Paired (fun (p : List Key × V) (q : List Key × Addr × Value) => p.1 = q.1 ∧ H q.2.1 = some (.tup (p.1.map kV)) ∧ RelV p.2 q.2.2) kvs xs ∧
      ∃ o es ep, h.get? a = some o ∧ o.ExactDict ∧ o.data = .dict es ep ∧ es.toList = xs.map (entryOfKey (tupleKind (mixKind P w))) ∧ (xs.map (·.1)).Nodup
  | .set S n => h.SetOf (intKind P w) a S n
  | .ins C dx fs => H dx = some (.own a) ∧ fs.length ≤ 1000 ∧ dx ≠ a ∧ h.get? a = some (PySem.W.instObj C dx) ∧
      ∃ mA, h.Ns1 dx mA ∧ (∀ f, RelO (fs.lookup f) (mA f)) ∧ PySem.Within mA (fs.map (·.1))
  | .own _ => ∃ o, h.get? a = some o
  | .xd fs => ∃ mA, h.Ns1 a mA ∧ ∀ f, RelO (fs.lookup f) (mA f)
  | .rng lo hi => ∃ t u v, h.get? a = some { cls := .type "range", data := .fields #[.int lo t, .int hi u, .int 1 v] }
  | .frz o u => h.get? a = some o ∧ ObjOk H h a u
  | .tbl ps => h.get? a = some { cls := .none, data := .fields ps }
  | .met f x => h.get? a = some (PySem.W.methodObj (.ref f) (.ref x))
  | .ext φ => φ h ∧ (∃ o, h.get? a = some o) ∧ ∀ h1 h2 : Heap, φ h1 → (∀ o, h1.get? a = some o → h2.get? a = some o) → φ h2
/-- the abstract heap is held -/
def HOk (H : Hp) (h : Heap) : Prop := ∀ a o, H a = some o → ObjOk P w H h a o
end

section
variable {P : Program} {w : World} {H H' : Hp} {h h' : Heap} {a : Addr} {o : HO}
theorem ObjOk.lt (x : ObjOk P w H h a o) : a < h.objs.size := by
  cases o with
  | lst xs => obtain ⟨_, _, _, _, e⟩ := x; exact Heap.lt_size e
  | tup xs => obtain ⟨_, _, _, p⟩ := x; exact p.lt
  | dK kvs => obtain ⟨_, _, _, _, o, _, _, e, _⟩ := x; exact Heap.lt_size e
  | dT kvs => obtain ⟨_, _, _, _, o, _, _, e, _⟩ := x; exact Heap.lt_size e
  | set S n => obtain ⟨o, _, _, _, e, _⟩ := x; exact Heap.lt_size e
  | ins C dx fs => obtain ⟨_, _, _, e, _⟩ := x; exact Heap.lt_size e
  | own y => obtain ⟨_, e⟩ := x; exact Heap.lt_size e
  | xd fs => obtain ⟨_, ⟨_, _, _, e, _⟩, _⟩ := x; exact Heap.lt_size e
  | rng lo hi => obtain ⟨_, _, _, e⟩ := x; exact Heap.lt_size e
  | frz ob u => obtain ⟨e, _⟩ := x; exact Heap.lt_size e
  | tbl ps => exact Heap.lt_size (show h.get? a = some _ from x)
  | met f y => exact Heap.lt_size (show h.get? a = some _ from x)
  | ext φ => obtain ⟨_, ⟨_, e⟩, _⟩ := x; exact Heap.lt_size e
theorem Paired.mapP {α β : Type} {F G : α → β → Prop} : ∀ {l₁ : List α} {l₂ : List β}, Paired F l₁ l₂ → (∀ a b, F a b → G a b) → Paired G l₁ l₂
  | _, _, .nil, _ => .nil
  | _, _, .cons r t, f => .cons (f _ _ r) (Paired.mapP t f)
/-- what an object's description leans on: its own object, its own dict, the tuples -/
theorem ObjOk.stay (x : ObjOk P w H h a o) (k : ∀ b u, (b = a ∨ H b = some (.own a)) → h.get? b = some u → h'.get? b = some u)
    (ho : ∀ b, H b = some (.own a) → H' b = some (.own a)) (ht : ∀ b xs, H b = some (.tup xs) → H' b = some (.tup xs)) : ObjOk P w H' h' a o := by
  induction o with
  | lst xs => obtain ⟨z, its, n, r, e⟩ := x; exact ⟨z, its, n, r, k _ _ (.inl rfl) e⟩
  | tup xs => obtain ⟨z, its, r, ob, e, c⟩ := x; exact ⟨z, its, r, ob, k _ _ (.inl rfl) e, c⟩
  | dK kvs => obtain ⟨z, y, vs, r, ob, es, ep, e, c⟩ := x; exact ⟨z, y, vs, r, ob, es, ep, k _ _ (.inl rfl) e, c⟩
  | dT kvs =>
    obtain ⟨z, y, xs, r, ob, es, ep, e, c⟩ := x
    exact ⟨z, y, xs, Paired.mapP r fun p q z => ⟨z.1, ht _ _ z.2.1, z.2.2⟩, ob, es, ep, k _ _ (.inl rfl) e, c⟩
  | set S n => obtain ⟨ob, es, ep, t, e, c⟩ := x; exact ⟨ob, es, ep, t, k _ _ (.inl rfl) e, c⟩
  | ins C dx fs =>
    obtain ⟨d, z, ne, e, mA, ⟨od, es, ep, e2, c⟩, r⟩ := x
    exact ⟨ho _ d, z, ne, k _ _ (.inl rfl) e, mA, ⟨od, es, ep, k _ _ (.inr d) e2, c⟩, r⟩
  | own y => obtain ⟨ob, e⟩ := x; exact ⟨ob, k _ _ (.inl rfl) e⟩
  | xd fs => obtain ⟨mA, ⟨od, es, ep, e, c⟩, r⟩ := x; exact ⟨mA, ⟨od, es, ep, k _ _ (.inl rfl) e, c⟩, r⟩
  | rng lo hi => obtain ⟨t, u, v, e⟩ := x; exact ⟨t, u, v, k _ _ (.inl rfl) e⟩
  | frz ob u ih => obtain ⟨e, q⟩ := x; exact ⟨k _ _ (.inl rfl) e, ih q⟩
  | tbl ps =>
    have e : h.get? a = some { cls := .none, data := .fields ps } := x
    show h'.get? a = some { cls := .none, data := .fields ps }
    exact k a _ (.inl rfl) e
  | met f y =>
    have e : h.get? a = some (PySem.W.methodObj (.ref f) (.ref y)) := x
    show h'.get? a = some (PySem.W.methodObj (.ref f) (.ref y))
    exact k a _ (.inl rfl) e
  | ext φ => obtain ⟨p, ⟨o, e⟩, st⟩ := x; exact ⟨st _ _ p fun o q => k _ _ (.inl rfl) q, ⟨o, k _ _ (.inl rfl) e⟩, st⟩
theorem HOk.lt (x : HOk P w H h) (e : H a = some o) : a < h.objs.size := (x a o e).lt
theorem HOk.fresh (x : HOk P w H h) (e : h.objs.size ≤ a) : H a = none := by
  cases q : H a with
  | none => rfl
  | some u => exact absurd (Nat.lt_of_lt_of_le (x.lt q) e) (Nat.lt_irrefl _)
/-- every object of the heap is kept -/
theorem HOk.kept (x : HOk P w H h) (k : ∀ b u, h.get? b = some u → h'.get? b = some u) : HOk P w H h' := fun a o e =>
  (x a o e).stay (fun b u _ q => k b u q) (fun _ q => q) fun _ _ q => q
/-- a new object is laid and tracked -/
theorem HOk.laid (x : HOk P w H h) (k : ∀ b u, h.get? b = some u → h'.get? b = some u) (hp : h.objs.size ≤ a) (new : ObjOk P w (upd H a o) h' a o) : HOk P w (upd H a o) h' := fun b u e => by
  have hn := x.fresh hp
  by_cases hb : b = a
  · subst hb; rw [upd_same] at e; cases e; exact new
  · rw [upd_ne hb] at e
    exact (x b u e).stay (fun c v _ q => k c v q) (fun c q => by rw [upd_ne (ne_of_none q hn)]; exact q) fun c xs q => by rw [upd_ne (ne_of_none q hn)]; exact q
end

/-- what may be read as u: it is u, or a known u -/
def Rd (H : Hp) (a : Addr) (u : HO) : Prop := H a = some u ∨ ∃ o, H a = some (.frz o u)
theorem Rd.ok {P : Program} {w : World} {H : Hp} {h : Heap} {a : Addr} {u : HO} (r : Rd H a u) (x : HOk P w H h) : ObjOk P w H h a u := by
  rcases r with r | ⟨o, r⟩
  · exact x a u r
  · obtain ⟨_, q⟩ := x a _ r
    exact q
/-- what may be written -/
def Mut : Option HO → Prop
  | some (.lst _) => True
  | some (.dK _) => True
  | some (.dT _) => True
  | some (.set _ _) => True
  | some (.ins _ _ _) => True
  | some (.ext _) => True
  | _ => False
section
variable {P : Program} {w : World} {H : Hp} {h h' : Heap} {x e : Addr} {o' : HO}
/-- the object at e is changed: x itself, or the dict of the instance x -/
theorem HOk.write (ok : HOk P w H h) (mu : Mut (H x)) (he : e = x ∨ H e = some (.own x)) (k : ∀ b u, b ≠ e → h.get? b = some u → h'.get? b = some u) (heo : ∃ u, h'.get? e = some u)
    (new : ObjOk P w (upd H x o') h' x o') : HOk P w (upd H x o') h' := fun b u q => by
  have nown : ∀ c y, H c = some (.own y) → c ≠ x := fun c y r z => by subst z; rw [r] at mu; exact mu
  have ntup : ∀ c xs, H c = some (.tup xs) → c ≠ x := fun c xs r z => by subst z; rw [r] at mu; exact mu
  by_cases hb : b = x
  · subst hb; rw [upd_same] at q; cases q; exact new
  · rw [upd_ne hb] at q
    by_cases hbe : b = e
    · have q' : H b = some (.own x) := by
        rcases he with z | z
        · exact absurd (hbe.trans z) hb
        · rw [hbe]; exact z
      rw [q] at q'; cases q'
      obtain ⟨v, hv⟩ := heo
      exact ⟨v, by rw [hbe]; exact hv⟩
    · refine (ok b u q).stay (fun c v hc r => k c v ?_ r) (fun c r => by rw [upd_ne (nown c b r)]; exact r) fun c xs r => by rw [upd_ne (ntup c xs r)]; exact r
      rcases hc with rfl | hc
      · exact hbe
      · rintro rfl
        rcases he with z | z
        · exact nown c b hc z
        · rw [hc] at z; cases z; exact hb rfl
end

/-! ### kept unless tracked; of the frames at fs (the callers') the slots may change (an exception that passes writes there); of the records at ex (iterators) nothing is said -/
structure Un (fs ex : List Addr) (H H' : Hp) (h h' : Heap) : Prop where
  keep : ∀ b o, h.get? b = some o → H b = none → b ∉ fs → b ∉ ex → h'.get? b = some o
  slot : ∀ b o, h.get? b = some o → H b = none → b ∈ fs → b ∉ ex → ∃ sl, h'.get? b = some { o with slots := sl }
  free : ∀ b o, h.get? b = some o → H b = none → b ∉ ex → H' b = none
  there : ∀ b o, h.get? b = some o → b ∉ ex → ∃ o', h'.get? b = some o'
  tups : ∀ b xs, H b = some (.tup xs) → H' b = some (.tup xs)
  frzs : ∀ b o u, H b = some (.frz o u) → H' b = some (.frz o u)
  tbls : ∀ b ps, H b = some (.tbl ps) → ∃ more, H' b = some (.tbl (ps ++ more))
section
variable {fs fs' ex ex' : List Addr} {H H1 H2 : Hp} {h h1 h2 h' : Heap} {a x e : Addr} {o : HO}
theorem Un.any (u : Un fs ex H H1 h h1) {b : Addr} {ob : Obj} (q : h.get? b = some ob) (n : H b = none) (hx : b ∉ ex) : ∃ sl, h1.get? b = some { ob with slots := sl } := by
  by_cases hb : b ∈ fs
  · exact u.slot b ob q n hb hx
  · exact ⟨ob.slots, u.keep b ob q n hb hx⟩
theorem Un.kept (k : ∀ b u, h.get? b = some u → h'.get? b = some u) : Un fs ex H H h h' :=
  ⟨fun b ob q _ _ _ => k b ob q, fun b ob q _ _ _ => ⟨ob.slots, k b ob q⟩, fun _ _ _ n _ => n, fun b ob q _ => ⟨ob, k b ob q⟩, fun _ _ q => q, fun _ _ _ q => q, fun _ ps q => ⟨#[], by rw [q]; simp⟩⟩
theorem Un.refl : Un fs ex H H h h := Un.kept fun _ _ q => q
theorem Un.laid (k : ∀ b u, h.get? b = some u → h'.get? b = some u) (hp : h.objs.size ≤ a) (hn : H a = none) : Un fs ex H (upd H a o) h h' where
  keep := fun b u q _ _ _ => k b u q
  slot := fun b u q _ _ _ => ⟨u.slots, k b u q⟩
  free := fun b u q n _ => by rw [upd_ne (Nat.ne_of_lt (Nat.lt_of_lt_of_le (Heap.lt_size q) hp))]; exact n
  there := fun b u q _ => ⟨u, k b u q⟩
  tups := fun b xs q => by rw [upd_ne (ne_of_none q hn)]; exact q
  frzs := fun b u xs q => by rw [upd_ne (ne_of_none q hn)]; exact q
  tbls := fun b ps q => ⟨#[], by rw [upd_ne (ne_of_none q hn), q]; simp⟩
theorem Un.write (mu : Mut (H x)) (he : e = x ∨ H e = some (.own x)) (k : ∀ b u, b ≠ e → h.get? b = some u → h'.get? b = some u) (heo : ∃ u, h'.get? e = some u) : Un fs ex H (upd H x o) h h' := by
  have hx : ∀ b, H b = none → b ≠ x := fun b n z => by subst z; rw [n] at mu; exact mu
  have hb : ∀ b, H b = none → b ≠ e := fun b n z => by
    subst z
    rcases he with r | r
    · exact hx b n r
    · rw [n] at r; cases r
  have hm : ∀ b u, H b = some u → ¬ Mut (some u) → b ≠ x := fun b u q nm z => by subst z; rw [q] at mu; exact nm mu
  refine ⟨fun b u q n _ _ => k b u (hb b n) q, fun b u q n _ _ => ⟨u.slots, k b u (hb b n) q⟩, fun b u q n _ => by rw [upd_ne (hx b n)]; exact n, fun b u q _ => ?_,
    fun b xs q => by rw [upd_ne (hm b _ q fun z => z)]; exact q, fun b u xs q => by rw [upd_ne (hm b _ q fun z => z)]; exact q, fun b ps q => ⟨#[], by rw [upd_ne (hm b _ q fun z => z), q]; simp⟩⟩
  by_cases hbe : b = e
  · subst hbe; exact heo
  · exact ⟨u, k b u hbe q⟩
end

/-! ### the heap without what is tracked -/
def trk (h : Heap) (H : Hp) : List Addr := (List.range h.objs.size).filter fun a => (H a).isSome
def hidT (h : Heap) (H : Hp) : Heap := PySem.W.hideAll h (trk h H)
theorem hidT_size (h : Heap) (H : Hp) : (hidT h H).objs.size = h.objs.size := PySem.W.hideAll_size _ _
theorem hidT_get {h : Heap} {H : Hp} {b : Addr} {o : Obj} (e : h.get? b = some o) (n : H b = none) : (hidT h H).get? b = some o :=
  PySem.W.hideAll_get _ e fun hm => by
    have q : (H b).isSome = true := (List.mem_filter.mp hm).2
    rw [n] at q; simp at q
theorem of_hidT {h : Heap} {H : Hp} {b : Addr} {o : Obj} (e : (hidT h H).get? b = some o) : h.get? b = some o ∧ H b = none := by
  have e' : h.get? b = some o := PySem.W.of_hideAll (trk h H) e
  refine ⟨e', ?_⟩
  cases q : H b with
  | none => rfl
  | some x =>
    have hm : b ∈ trk h H := List.mem_filter.mpr ⟨List.mem_range.mpr (Heap.lt_size e'), by simp [q]⟩
    have z : (hidT h H).get? b = none := PySem.W.hideAll_none (trk h H) hm
    rw [z] at e; cases e

/-! ### OpenK's ledger, filled with every new object but one -/
def allNews (g h : Heap) (L : Addr) : List (Addr × Obj) := (List.range h.objs.size).filterMap fun a => if a = L ∨ (g.get? a).isSome = true then none else (h.get? a).map fun o => (a, o)
def rest (g h : Heap) (L d : Addr) : List (Addr × Obj) := (allNews g h L).filter fun p => decide (p.1 ≠ d)
end L2
set_option genInjectivity false

namespace L2
open PySem PySem.Spec PyProof.Rows

/-- the module's facts, over the base: the heap at the law's entry without what is tracked there -/
structure Mod (K : PySem.W.Frag) (mg : Str → Option Value) (base : Heap) : Prop where
  kin : K.In base
  glob : base.Ns mainGlobals mg
  blt : ∃ mb, base.Ns builtinsNs mb ∧ ∀ x : Str, x ≠ "__name__" → mb x = bootBuiltins x
  nolimit : base.NoLimit

/-- the context: a def's body (or a comprehension's block) running. base: fixed through the whole law; s₀, H₀: the entry; outer: the frames whose slots others may change (a def's callers); stack: all frames that run;
   ex: iterators that were made ahead of the entry and are walked here (a comprehension's); fn: the names whose cells were made at the entry (a def: all; a comprehension's block: its own); calm: not within an except suite; pn: pins that every state bears; xe: what is wanted of an exception that leaves the code -/
structure Cx where
  prog : Program
  w : World
  K : PySem.W.Frag
  mg : Str → Option Value
  base : Heap
  A : Around
  N : List Str
  s₀ : Shared
  H₀ : Hp
  env : Env
  outer : List Env
  stack : List Env
  ex : List Addr
  fn : Str → Bool
  calm : Bool
  pn : List (Addr × Obj)
  xe : Value → Shared → Prop
/-- the callers' frames -/
def frs (l : List Env) : List Addr := l.filterMap (·.frame)
abbrev Cx.fs (X : Cx) : List Addr := frs X.outer

def Vis (sc : Scope) (x : Str) : Prop := sc.names.lookup x = some .local ∨ sc.names.lookup x = some .cell ∨ sc.names.lookup x = some .free
def Loc (sc : Scope) (x : Str) : Prop := sc.names.lookup x = some .local ∨ sc.names.lookup x = some .cell
def Look (env : Env) (h : Heap) (m : Str → Option Value) (x : Str) (u : Value) : Prop :=
  (env.kindOf x = some .local ∧ m x = some u) ∨ ((env.kindOf x = some .cell ∨ env.kindOf x = some .free) ∧ ∃ c, env.cells.lookup x = some c ∧ h.IsCell c (some u))

structure Cx.Ok (X : Cx) : Prop where
  mod : Mod X.K X.mg X.base
  kind : X.env.scope.kind = .function
  glob : X.env.globals = mainGlobals
  blt : X.env.builtins = builtinsNs
  above : X.s₀.heap.objs.size ≤ X.env.locals
  inj : ∀ x y c, X.env.cells.lookup x = some c → X.env.cells.lookup y = some c → x = y
  has : ∀ x, (X.env.kindOf x = some .cell ∨ X.env.kindOf x = some .free) → ∃ c, X.env.cells.lookup x = some c
  cab : ∀ x c, X.fn x = true → X.env.cells.lookup x = some c → X.s₀.heap.objs.size ≤ c
  hd : X.calm = true → X.A.handled = none
  frames : X.A.frames = some X.stack
  stk : X.stack = X.outer ∨ (X.stack = X.env :: X.outer ∧ X.env.frame = some X.env.locals)
  exf : ∀ b ∈ X.ex, b ≠ X.env.locals ∧ ∀ x c, X.env.cells.lookup x = some c → c ≠ b
  bs : ∀ b o, X.base.get? b = some o → X.s₀.heap.get? b = some o ∧ X.H₀ b = none
  bsz : X.base.objs.size ≤ X.s₀.heap.objs.size
  noex : ∀ b o, X.base.get? b = some o → b ∉ X.ex
  exfs : ∀ b ∈ X.ex, b ∉ X.fs
  funs : X.s₀.heap.FunFrames X.base X.outer
  frf : ∀ b ∈ X.fs, X.H₀ b = none

structure Inv (X : Cx) (pins : List (Addr × Obj)) (σ : List (Option V)) (H : Hp) (s : Shared) : Prop where
  ok : X.Ok
  os : s.os = X.s₀.os
  bare : AllBare s.gens
  base : Un X.fs X.ex X.H₀ H X.s₀.heap s.heap
  loc : ∃ m, s.heap.Ns X.env.locals m ∧ ∀ (i : Nat) (x : Str) (v : V), X.N[i]? = some x → σ[i]? = some (some v) → Vis X.env.scope x → ∃ u, RelV v u ∧ Look X.env s.heap m x u
  cell : ∀ x c, X.env.cells.lookup x = some c → ∃ v, s.heap.IsCell c v
  free : H X.env.locals = none
  freeC : ∀ x c, X.env.cells.lookup x = some c → H c = none
  pin : ∀ p ∈ X.pn ++ pins, s.heap.get? p.1 = some p.2 ∧ H p.1 = none ∧ p.1 ≠ X.env.locals ∧ p.1 ∉ X.fs ∧ ∀ v, p.2.data ≠ .cell v
  hok : HOk X.prog X.w H s.heap
  len : σ.length = X.N.length

section
variable {X : Cx} {pins : List (Addr × Obj)} {σ : List (Option V)} {H H' : Hp} {s : Shared} {h' : Heap}

theorem Cx.Ok.nofr (ok : X.Ok) {b : Addr} {o : Obj} (e : X.base.get? b = some o) : b ∉ X.fs := fun hb => by
  have := (ok.funs.mem hb).1
  rw [e] at this; cases this
theorem Inv.bs (I : Inv X pins σ H s) : ∀ b o, X.base.get? b = some o → s.heap.get? b = some o ∧ H b = none := fun b o e =>
  ⟨I.base.keep b o (I.ok.bs b o e).1 (I.ok.bs b o e).2 (I.ok.nofr e) (I.ok.noex b o e), I.base.free b o (I.ok.bs b o e).1 (I.ok.bs b o e).2 (I.ok.noex b o e)⟩
theorem Inv.bk (I : Inv X pins σ H s) : ∀ b o, X.base.get? b = some o → s.heap.get? b = some o := fun b o e => (I.bs b o e).1
theorem Inv.mod (I : Inv X pins σ H s) : Mod X.K X.mg X.base := I.ok.mod
theorem Inv.kIn (I : Inv X pins σ H s) : X.K.In s.heap := I.ok.mod.kin.keeps I.bk
theorem Inv.lt (I : Inv X pins σ H s) : X.env.locals < s.heap.objs.size := let ⟨_, hn, _⟩ := I.loc; hn.lt
theorem Inv.sz (I : Inv X pins σ H s) : X.s₀.heap.objs.size ≤ s.heap.objs.size := Nat.le_trans I.ok.above (Nat.le_of_lt I.lt)
theorem Inv.nofs (I : Inv X pins σ H s) {a : Addr} (h : s.heap.objs.size ≤ a) : a ∉ X.fs := fun hb => by
  obtain ⟨_, o, ho, _⟩ := I.ok.funs.mem hb
  exact absurd (Nat.lt_of_lt_of_le (Heap.lt_size ho) (Nat.le_trans I.sz h)) (Nat.lt_irrefl _)
theorem Inv.cne (I : Inv X pins σ H s) : ∀ x c, X.env.cells.lookup x = some c → c ≠ X.env.locals := fun x c e z => by
  obtain ⟨v, o, ho, hd⟩ := I.cell x c e
  obtain ⟨m, ⟨o', es, ep, ho', hd', _⟩, _⟩ := I.loc
  rw [z, ho'] at ho; cases ho; rw [hd'] at hd; cases hd
theorem Inv.funs (I : Inv X pins σ H s) : s.heap.FunFrames X.base X.outer := by
  have all : ∀ (l : List Env), (∀ b ∈ frs l, b ∈ X.fs) → X.s₀.heap.FunFrames X.base l → s.heap.FunFrames X.base l := by
    intro l
    induction l with
    | nil => intro _ _; trivial
    | cons env r ih =>
      intro hs hl
      obtain ⟨hk, ⟨L, o, hf, hn, ho, hd⟩, hr⟩ := hl
      have hL : L ∈ X.fs := hs L (by unfold frs; rw [List.filterMap_cons, hf]; exact List.mem_cons_self)
      obtain ⟨sl, e⟩ := I.base.slot L o ho (I.ok.frf L hL) hL fun z => I.ok.exfs L z hL
      exact ⟨hk, ⟨L, _, hf, hn, e, hd⟩, ih (fun b hb => hs b (by unfold frs; rw [List.filterMap_cons, hf]; exact List.mem_cons_of_mem _ hb)) hr⟩
  exact all X.outer (fun _ hb => hb) I.ok.funs

/-- the frames that run, for a call -/
theorem Inv.stack (I : Inv X pins σ H s) : s.heap.FunFrames X.base X.stack := by
  rcases I.ok.stk with e | ⟨e, hf⟩
  · rw [e]; exact I.funs
  · rw [e]
    obtain ⟨m, hn, _⟩ := I.loc
    refine .cons (by rw [I.ok.kind]; decide) hf hn ?_ I.funs
    exact Heap.get?_none_of_le (Nat.le_trans I.ok.bsz I.ok.above)
theorem Inv.stkSub (I : Inv X pins σ H s) : ∀ b ∈ frs X.stack, b ∈ X.env.locals :: X.fs := fun b hb => by
  rcases I.ok.stk with e | ⟨e, hf⟩
  · rw [e] at hb; exact List.mem_cons_of_mem _ hb
  · rw [e] at hb
    unfold frs at hb
    rw [List.filterMap_cons, hf] at hb
    exact hb
theorem Inv.stkFree (I : Inv X pins σ H s) : ∀ b ∈ frs X.stack, H b = none := fun b hb => by
  rcases List.mem_cons.mp (I.stkSub b hb) with e | hb
  · rw [e]; exact I.free
  · obtain ⟨_, o, ho, _⟩ := I.ok.funs.mem hb
    exact I.base.free b o ho (I.ok.frf b hb) fun z => I.ok.exfs b z hb

/-- THE STEP: the untracked objects but the frame and the records at ch are kept (the callers' frames up to slots), the frame's map is kept, the new abstract heap is held -/
theorem Inv.step {g' : Array GenState} {t' : Nat} {d' : Drawn} {ch : List Addr} (I : Inv X pins σ H s)
    (hch : ∀ b ∈ ch, (b ∈ X.ex ∨ X.s₀.heap.objs.size ≤ b) ∧ b ≠ X.env.locals ∧ (∀ x c, X.env.cells.lookup x = some c → c ≠ b) ∧ ∀ p ∈ X.pn ++ pins, p.1 ≠ b)
    (keep : ∀ b o, b ≠ X.env.locals → b ∉ X.fs → b ∉ ch → s.heap.get? b = some o → H b = none → h'.get? b = some o)
    (slot : ∀ b o, b ≠ X.env.locals → b ∈ X.fs → b ∉ ch → s.heap.get? b = some o → H b = none → ∃ sl, h'.get? b = some { o with slots := sl }) (free : ∀ b o, b ∉ ch → s.heap.get? b = some o → H b = none → H' b = none)
    (there : ∀ b o, b ∉ ch → s.heap.get? b = some o → ∃ o', h'.get? b = some o')
    (tups : ∀ b xs, H b = some (.tup xs) → H' b = some (.tup xs)) (frzs : ∀ b o u, H b = some (.frz o u) → H' b = some (.frz o u)) (tbls : ∀ b ps, H b = some (.tbl ps) → ∃ more, H' b = some (.tbl (ps ++ more)))
    (ns : ∀ m, s.heap.Ns X.env.locals m → h'.Ns X.env.locals m) (hok : HOk X.prog X.w H' h') (hg : AllBare g') :
    Inv X pins σ H' { s with heap := h', gens := g', drawn := d', toks := t' } := by
  have neL : ∀ b o, X.s₀.heap.get? b = some o → b ≠ X.env.locals := fun b o e => Nat.ne_of_lt (Nat.lt_of_lt_of_le (Heap.lt_size e) I.ok.above)
  have neC : ∀ b o, X.s₀.heap.get? b = some o → b ∉ X.ex → b ∉ ch := fun b o e hx hb => by
    rcases (hch b hb).1 with z | z
    · exact hx z
    · exact absurd (Nat.lt_of_lt_of_le (Heap.lt_size e) z) (Nat.lt_irrefl _)
  have cellK : ∀ x c, X.env.cells.lookup x = some c → ∀ v, s.heap.IsCell c v → h'.IsCell c v := fun x c e v ⟨o, ho, hd⟩ => by
    have nch : c ∉ ch := fun z => (hch c z).2.2.1 x c e rfl
    by_cases hc : c ∈ X.fs
    · obtain ⟨sl, q⟩ := slot c o (I.cne x c e) hc nch ho (I.freeC x c e)
      exact ⟨_, q, hd⟩
    · exact ⟨o, keep c o (I.cne x c e) hc nch ho (I.freeC x c e), hd⟩
  refine ⟨I.ok, I.os, hg, ⟨fun b o e n hb hx => ?_, fun b o e n hb hx => ?_, fun b o e n hx => ?_, fun b o e hx => ?_, fun b xs e => tups b xs (I.base.tups b xs e), fun b o xs e => frzs b o xs (I.base.frzs b o xs e), fun b ps e => ?_⟩, ?_, fun x c e => ?_, ?_, fun x c e => ?_, fun p hp => ?_, hok, I.len⟩
  · exact keep b o (neL b o e) hb (neC b o e hx) (I.base.keep b o e n hb hx) (I.base.free b o e n hx)
  · obtain ⟨sl, e1⟩ := I.base.slot b o e n hb hx
    obtain ⟨sl', e2⟩ := slot b _ (neL b o e) hb (neC b o e hx) e1 (I.base.free b o e n hx)
    exact ⟨sl', e2⟩
  · obtain ⟨o', e1⟩ := I.base.there b o e hx
    exact free b o' (neC b o e hx) e1 (I.base.free b o e n hx)
  · obtain ⟨o', e1⟩ := I.base.there b o e hx
    exact there b o' (neC b o e hx) e1
  · obtain ⟨m1, e1⟩ := I.base.tbls b ps e
    obtain ⟨m2, e2⟩ := tbls b _ e1
    exact ⟨m1 ++ m2, by rw [e2, Array.append_assoc]⟩
  · obtain ⟨m, hn, hl⟩ := I.loc
    refine ⟨m, ns m hn, fun i x v e1 e2 e3 => ?_⟩
    obtain ⟨u, r, l⟩ := hl i x v e1 e2 e3
    refine ⟨u, r, ?_⟩
    rcases l with l | ⟨k, c, e, z⟩
    · exact .inl l
    · exact .inr ⟨k, c, e, cellK x c e _ z⟩
  · obtain ⟨v, z⟩ := I.cell x c e
    exact ⟨v, cellK x c e v z⟩
  · obtain ⟨m, ⟨o, _, _, ho, _⟩, _⟩ := I.loc
    exact free _ o (fun z => (hch _ z).2.1 rfl) ho I.free
  · obtain ⟨v, o, ho, hd⟩ := I.cell x c e
    exact free c o (fun z => (hch c z).2.2.1 x c e rfl) ho (I.freeC x c e)
  · obtain ⟨e, n, ne, nf, d⟩ := I.pin p hp
    have nch : p.1 ∉ ch := fun z => (hch p.1 z).2.2.2 p hp rfl
    exact ⟨keep p.1 p.2 ne nf nch e n, free p.1 p.2 nch e n, ne, nf, d⟩
/-- .. where the frame's own object is kept too -/
theorem Inv.un {t' : Nat} (I : Inv X pins σ H s) (u : Un X.fs [] H H' s.heap h') (hok : HOk X.prog X.w H' h') : Inv X pins σ H' { s with heap := h', toks := t' } := by
  obtain ⟨m, ⟨o, es, ep, ho, r⟩, _⟩ := id I.loc
  obtain ⟨sl, hL⟩ := u.any ho I.free (by simp)
  exact I.step (g' := s.gens) (d' := s.drawn) (ch := []) (fun _ z => nomatch z) (fun b o _ hb _ e n => u.keep b o e n hb (by simp)) (fun b o _ hb _ e n => u.slot b o e n hb (by simp)) (fun b o _ e n => u.free b o e n (by simp)) (fun b o _ e => u.there b o e (by simp)) u.tups u.frzs u.tbls (fun m' hm => by
    obtain ⟨o', es', ep', ho', r'⟩ := hm
    rw [ho] at ho'; cases ho'
    exact ⟨_, es', ep', hL, r'⟩) hok I.bare
/-- behind a call (or a comprehension's block): the slots of this frame may have changed too, the records at ch may have turned -/
theorem Inv.call {g' : Array GenState} {t' : Nat} {d' : Drawn} {ch : List Addr} (I : Inv X pins σ H s) (u : Un (frs X.stack) ch H H' s.heap h') (hok : HOk X.prog X.w H' h') (hg : AllBare g')
    (hch : ∀ b ∈ ch, (b ∈ X.ex ∨ X.s₀.heap.objs.size ≤ b) ∧ b ≠ X.env.locals ∧ (∀ x c, X.env.cells.lookup x = some c → c ≠ b) ∧ ∀ p ∈ X.pn ++ pins, p.1 ≠ b) :
    Inv X pins σ H' { s with heap := h', gens := g', drawn := d', toks := t' } := by
  obtain ⟨m, ⟨o, es, ep, ho, r⟩, _⟩ := id I.loc
  obtain ⟨sl, hL⟩ := u.any ho I.free fun z => (hch _ z).2.1 rfl
  exact I.step (ch := ch) hch (fun b o hL hb hc e n => u.keep b o e n (fun z => (List.mem_cons.mp (I.stkSub b z)).elim hL hb) hc) (fun b o _ _ hc e n => u.any e n hc) (fun b o hc e n => u.free b o e n hc) (fun b o hc e => u.there b o e hc) u.tups u.frzs u.tbls (fun m' hm => by
    obtain ⟨o', es', ep', ho', r'⟩ := hm
    rw [ho] at ho'; cases ho'
    exact ⟨_, es', ep', hL, r'⟩) hok hg
/-- an untracked record of ours (an iterator) has turned -/
theorem Inv.turned {t' : Nat} {it : Addr} (I : Inv X pins σ H s) (k : ∀ b o, b ≠ it → s.heap.get? b = some o → h'.get? b = some o) (hn : H it = none) (hL : it ≠ X.env.locals)
    (h1 : it ∈ X.ex ∨ X.s₀.heap.objs.size ≤ it) (h2 : ∀ x c, X.env.cells.lookup x = some c → c ≠ it) (h3 : ∀ p ∈ X.pn ++ pins, p.1 ≠ it) : Inv X pins σ H { s with heap := h', toks := t' } := by
  have nit : ∀ b u, H b = some u → b ≠ it := fun b u e z => by rw [z, hn] at e; cases e
  refine I.step (g' := s.gens) (d' := s.drawn) (ch := [it]) (fun b hb => ?_) (fun b o _ _ hc e _ => k b o (fun z => hc (by simp [z])) e) (fun b o _ _ hc e _ => ⟨o.slots, k b o (fun z => hc (by simp [z])) e⟩) (fun _ _ _ _ n => n)
    (fun b o hc e => ⟨o, k b o (fun z => hc (by simp [z])) e⟩) (fun _ _ e => e) (fun _ _ _ e => e) (fun b ps e => ⟨#[], by rw [e]; simp⟩) (fun m hm => ?_) (fun b u e => ?_) I.bare
  · have e : b = it := by simpa using hb
    subst e
    exact ⟨h1, hL, h2, h3⟩
  · obtain ⟨o, es, ep, ho, r⟩ := hm
    exact ⟨o, es, ep, k _ o (Ne.symm hL) ho, r⟩
  · refine (I.hok b u e).stay (fun c v hc q => k c v ?_ q) (fun _ q => q) fun _ _ q => q
    rcases hc with z | z
    · rw [z]; exact nit b u e
    · exact nit c _ z
theorem Inv.tok (I : Inv X pins σ H s) (t : Nat) : Inv X pins σ H { s with toks := t } := I.un (h' := s.heap) (t' := t) Un.refl I.hok
/-- all objects kept -/
theorem Inv.kept {t' : Nat} (I : Inv X pins σ H s) (k : ∀ b u, s.heap.get? b = some u → h'.get? b = some u) : Inv X pins σ H { s with heap := h', toks := t' } := I.un (Un.kept k) (I.hok.kept k)
/-- a new object laid and tracked -/
theorem Inv.laid {a : Addr} {o : HO} {t' : Nat} (I : Inv X pins σ H s) (k : ∀ b u, s.heap.get? b = some u → h'.get? b = some u) (hp : s.heap.objs.size ≤ a) (new : ObjOk X.prog X.w (upd H a o) h' a o) :
    Inv X pins σ (upd H a o) { s with heap := h', toks := t' } := I.un (Un.laid k hp (I.hok.fresh hp)) (I.hok.laid k hp new)
/-- an object written -/
theorem Inv.write {x e : Addr} {o : HO} {t' : Nat} (I : Inv X pins σ H s) (mu : Mut (H x)) (he : e = x ∨ H e = some (.own x)) (k : ∀ b u, b ≠ e → s.heap.get? b = some u → h'.get? b = some u) (heo : ∃ u, h'.get? e = some u)
    (new : ObjOk X.prog X.w (upd H x o) h' x o) : Inv X pins σ (upd H x o) { s with heap := h', toks := t' } := I.un (Un.write mu he k heo) (I.hok.write mu he k heo new)
theorem Inv.pins_of {pins' : List (Addr × Obj)} (I : Inv X pins σ H s) (h : ∀ p ∈ pins', s.heap.get? p.1 = some p.2 ∧ H p.1 = none ∧ p.1 ≠ X.env.locals ∧ p.1 ∉ X.fs ∧ ∀ v, p.2.data ≠ .cell v) : Inv X pins' σ H s :=
  ⟨I.ok, I.os, I.bare, I.base, I.loc, I.cell, I.free, I.freeC, fun p hp => (List.mem_append.mp hp).elim (fun z => I.pin p (List.mem_append_left _ z)) (h p), I.hok, I.len⟩

theorem nodup_ix {N : List Str} (hN : N.Nodup) {i j : Nat} {x : Str} (a : N[i]? = some x) (b : N[j]? = some x) : i = j := by
  obtain ⟨h1, e1⟩ := List.getElem?_eq_some_iff.mp a
  obtain ⟨h2, e2⟩ := List.getElem?_eq_some_iff.mp b
  exact (List.getElem_inj hN).mp (e1.trans e2.symm)

/-- a name is stored; what changed -/
theorem store_ok2 {M : Model} {A : Around} {E : Value → Shared → Prop} {i : Nat} {x : Str} {v : V} {u : Value} {Q : Unit → Shared → Prop} (I : Inv X pins σ H s) (hN : X.N.Nodup) (hi : X.N[i]? = some x) (hx : Loc X.env.scope x) (r : RelV v u)
    (h : ∀ s', Inv X pins (σ.set i (some v)) H s' → (∃ a, Heap.SameBut a s.heap s'.heap ∧ (a = X.env.locals ∨ X.env.cells.lookup x = some a)) → Q () s') (hf : X.fn x = true ∨ X.env.scope.names.lookup x = some .local := by first | exact .inl rfl | exact .inr rfl | assumption) : wpAny M A (storeName X.env x u) Q E s := by
  obtain ⟨m, hn, hl⟩ := id I.loc
  have hcls : (X.env.scope.kind == .class || (X.env.scope.kind == .module && X.env.locals != X.env.globals)) = false := by rw [I.ok.kind]; rfl
  have hiσ : i < σ.length := by rw [I.len]; exact (List.getElem?_eq_some_iff.mp hi).1
  have cne := I.cne
  have tracked : ∀ {a : Addr} {h' : Heap}, (∃ o, s.heap.get? a = some o ∧ H a = none) → Heap.SameBut a s.heap h' → HOk X.prog X.w H h' := fun {a h'} ha hs b ob e => by
    obtain ⟨_, _, hfree⟩ := ha
    refine (I.hok b ob e).stay (fun c w' hc q => (hs.2 c ?_).trans q) (fun _ q => q) fun _ _ q => q
    rintro rfl
    rcases hc with rfl | hc
    · rw [hfree] at e; cases e
    · rw [hfree] at hc; cases hc
  rcases hx with hk | hk
  · refine wpAny_storeName_local hk hn (fun h' hn' hs => ?_) hcls
    obtain ⟨oL, _, _, hoL, _⟩ := id hn
    refine h _ ⟨I.ok, I.os, I.bare, ⟨fun b o e n hb hx => ?_, fun b o e n hb hx => ?_, I.base.free, fun b o e hx => ?_, I.base.tups, I.base.frzs, I.base.tbls⟩, ⟨_, hn', fun j y v' e1 e2 e3 => ?_⟩, fun y c e => ?_, I.free, I.freeC, fun p hp => ?_, tracked ⟨oL, hoL, I.free⟩ hs, by simpa using I.len⟩ ⟨_, hs, .inl rfl⟩
    · exact (hs.2 b (Nat.ne_of_lt (Nat.lt_of_lt_of_le (Heap.lt_size e) I.ok.above))).trans (I.base.keep b o e n hb hx)
    · obtain ⟨sl, e1⟩ := I.base.slot b o e n hb hx
      exact ⟨sl, (hs.2 b (Nat.ne_of_lt (Nat.lt_of_lt_of_le (Heap.lt_size e) I.ok.above))).trans e1⟩
    · obtain ⟨o', e1⟩ := I.base.there b o e hx
      exact ⟨o', (hs.2 b (Nat.ne_of_lt (Nat.lt_of_lt_of_le (Heap.lt_size e) I.ok.above))).trans e1⟩
    · by_cases hj : j = i
      · subst hj
        rw [hi] at e1; cases e1
        rw [List.getElem?_set_self hiσ] at e2
        cases e2
        exact ⟨u, r, .inl ⟨hk, by simp⟩⟩
      · rw [List.getElem?_set_ne (Ne.symm hj)] at e2
        obtain ⟨u', r', q⟩ := hl j y v' e1 e2 e3
        refine ⟨u', r', ?_⟩
        rcases q with ⟨k, e⟩ | ⟨k, c, e, z⟩
        · refine .inl ⟨k, ?_⟩
          have : y ≠ x := fun e => hj (nodup_ix hN e1 (e ▸ hi))
          simp [this, e]
        · exact .inr ⟨k, c, e, z.sameBut hs (cne y c e)⟩
    · obtain ⟨w', z⟩ := I.cell y c e
      exact ⟨w', z.sameBut hs (cne y c e)⟩
    · obtain ⟨e, n, ne, nf, d⟩ := I.pin p hp
      exact ⟨(hs.2 p.1 ne).trans e, n, ne, nf, d⟩
  · have hfn : X.fn x = true := by
      rcases hf with z | z
      · exact z
      · rw [z] at hk; cases hk
    obtain ⟨c, hc⟩ := I.ok.has x (.inl hk)
    obtain ⟨w', z⟩ := I.cell x c hc
    refine wpAny_storeName_cell I.ok.kind hk hc z (fun h' hc' hs => ?_)
    obtain ⟨oc, hoc, hocd⟩ := id z
    refine h { s with heap := h' } ⟨I.ok, I.os, I.bare, ⟨fun b o e n hb hx => ?_, fun b o e n hb hx => ?_, I.base.free, fun b o e hx => ?_, I.base.tups, I.base.frzs, I.base.tbls⟩, ⟨m, hn.sameBut hs (Ne.symm (cne x c hc)), fun j y v' e1 e2 e3 => ?_⟩, fun y c' e => ?_, I.free, I.freeC, fun p hp => ?_, tracked ⟨oc, hoc, I.freeC x c hc⟩ hs, by simpa using I.len⟩ ⟨c, hs, .inr hc⟩
    · exact (hs.2 b (Nat.ne_of_lt (Nat.lt_of_lt_of_le (Heap.lt_size e) (I.ok.cab x c hfn hc)))).trans (I.base.keep b o e n hb hx)
    · obtain ⟨sl, e1⟩ := I.base.slot b o e n hb hx
      exact ⟨sl, (hs.2 b (Nat.ne_of_lt (Nat.lt_of_lt_of_le (Heap.lt_size e) (I.ok.cab x c hfn hc)))).trans e1⟩
    · obtain ⟨o', e1⟩ := I.base.there b o e hx
      exact ⟨o', (hs.2 b (Nat.ne_of_lt (Nat.lt_of_lt_of_le (Heap.lt_size e) (I.ok.cab x c hfn hc)))).trans e1⟩
    · by_cases hj : j = i
      · subst hj
        rw [hi] at e1; cases e1
        rw [List.getElem?_set_self hiσ] at e2
        cases e2
        exact ⟨u, r, .inr ⟨.inl hk, c, hc, hc'⟩⟩
      · rw [List.getElem?_set_ne (Ne.symm hj)] at e2
        obtain ⟨u', r', q⟩ := hl j y v' e1 e2 e3
        refine ⟨u', r', ?_⟩
        rcases q with q | ⟨k, c', e, z'⟩
        · exact .inl q
        · refine .inr ⟨k, c', e, z'.sameBut hs ?_⟩
          rintro rfl
          exact hj (nodup_ix hN e1 (I.ok.inj _ _ _ e hc ▸ hi))
    · by_cases hcc : c' = c
      · subst hcc; exact ⟨_, hc'⟩
      · obtain ⟨w2, z2⟩ := I.cell y c' e
        exact ⟨w2, z2.sameBut hs hcc⟩
    · obtain ⟨e, n, ne, nf, d⟩ := I.pin p hp
      refine ⟨(hs.2 p.1 ?_).trans e, n, ne, nf, d⟩
      intro q
      rw [q, hoc] at e
      have q' : oc = p.2 := Option.some.inj e
      exact d w' (by rw [← q']; exact hocd)
theorem store_ok {M : Model} {A : Around} {E : Value → Shared → Prop} {i : Nat} {x : Str} {v : V} {u : Value} {Q : Unit → Shared → Prop} (I : Inv X pins σ H s) (hN : X.N.Nodup) (hi : X.N[i]? = some x) (hx : Loc X.env.scope x) (r : RelV v u)
    (h : ∀ s', Inv X pins (σ.set i (some v)) H s' → Q () s') (hf : X.fn x = true ∨ X.env.scope.names.lookup x = some .local := by first | exact .inl rfl | exact .inr rfl | assumption) : wpAny M A (storeName X.env x u) Q E s :=
  store_ok2 I hN hi hx r (fun s' I' _ => h s' I') hf
/-- behind a call or a block, the state as it is -/
theorem Inv.call' {s' : Shared} {ch : List Addr} (I : Inv X pins σ H s) (ho : s'.os = s.os) (u : Un (frs X.stack) ch H H' s.heap s'.heap) (hok : HOk X.prog X.w H' s'.heap) (hg : AllBare s'.gens)
    (hch : ∀ b ∈ ch, (b ∈ X.ex ∨ X.s₀.heap.objs.size ≤ b) ∧ b ≠ X.env.locals ∧ (∀ x c, X.env.cells.lookup x = some c → c ≠ b) ∧ ∀ p ∈ X.pn ++ pins, p.1 ≠ b) : Inv X pins σ H' s' := by
  obtain ⟨h', g', d', t', o'⟩ := s'
  have e : o' = s.os := ho
  subst e
  exact I.call (g' := g') (t' := t') (d' := d') u hok hg hch
end

/-! ### the judgements -/
/-- an exception: its class, its own dict's address (where it has one), the abstract heap behind it -/
abbrev XK := Value → Option Addr → Hp → Prop
abbrev St := List (Option V)
abbrev VK := V → Hp → Prop
/-- an expression's reading; a test's; an argument list's -/
abbrev TE := St → Hp → VK → Prop
abbrev TT := St → Hp → (Bool → Hp → Prop) → Prop
abbrev TA := St → Hp → (List V → Hp → Prop) → Prop
/-- what is wanted behind a statement -/
structure Ends where
  nx : St → Hp → Prop
  rt : VK
  bk : St → Hp → Prop := fun _ _ => False
  ct : St → Hp → Prop := fun _ _ => False
abbrev TS := Ends → St → Hp → Prop

def EP (X : Cx) (pins : List (Addr × Obj)) (σ : St) (Q : VK) (u : Value) (s' : Shared) : Prop := ∃ v H', Inv X pins σ H' s' ∧ RelV v u ∧ Q v H'
def TP (X : Cx) (pins : List (Addr × Obj)) (σ : St) (Q : Bool → Hp → Prop) (b : Bool) (s' : Shared) : Prop := ∃ H', Inv X pins σ H' s' ∧ Q b H'
def AP (X : Cx) (pins : List (Addr × Obj)) (σ : St) (Q : List V → Hp → Prop) (us : List Value) (s' : Shared) : Prop := ∃ vs H', Inv X pins σ H' s' ∧ Vals vs us ∧ Q vs H'
def SP (X : Cx) (pins : List (Addr × Obj)) (D : Ends) (f : Flow) (s' : Shared) : Prop :=
  match f with
  | .next => ∃ σ' H', Inv X pins σ' H' s' ∧ D.nx σ' H'
  | .brk => ∃ σ' H', Inv X pins σ' H' s' ∧ D.bk σ' H'
  | .cont => ∃ σ' H', Inv X pins σ' H' s' ∧ D.ct σ' H'
  | .ret u => ∃ v σ' H', Inv X pins σ' H' s' ∧ RelV v u ∧ D.rt v H'

def PE (X : Cx) (e : Expr) (t : TE) : Prop :=
  ∀ (pins : List (Addr × Obj)) (s : Shared) (σ : St) (H : Hp) (Q : VK), Inv X pins σ H s → t σ H Q → wpAny (model X.prog X.w) X.A (eval e X.env) (EP X pins σ Q) X.xe s
def PT (X : Cx) (e : Expr) (t : TT) : Prop :=
  ∀ (pins : List (Addr × Obj)) (s : Shared) (σ : St) (H : Hp) (Q : Bool → Hp → Prop), Inv X pins σ H s → t σ H Q → wpAny (model X.prog X.w) X.A (isTrue e X.env (eval e X.env)) (TP X pins σ Q) X.xe s
/-- a test whatever its 'whole' is (and, or) -/
def PW (X : Cx) (e : Expr) (t : TT) : Prop :=
  ∀ (whole : Sem Value) (pins : List (Addr × Obj)) (s : Shared) (σ : St) (H : Hp) (Q : Bool → Hp → Prop), Inv X pins σ H s → t σ H Q → wpAny (model X.prog X.w) X.A (isTrue e X.env whole) (TP X pins σ Q) X.xe s
theorem PW.pt {X : Cx} {e : Expr} {t : TT} (h : PW X e t) : PT X e t := h _
/-- an argument list (no star), from the left -/
def PA (X : Cx) (es : List Expr) (t : TA) : Prop :=
  ∀ (pos : Pos) (pins : List (Addr × Obj)) (s : Shared) (σ : St) (H : Hp) (Q : List V → Hp → Prop), Inv X pins σ H s → t σ H Q → wpAny (model X.prog X.w) X.A (spliced (backTo pos (starEach es X.env))) (AP X pins σ Q) X.xe s
def PS (X : Cx) (st : Stmt) (t : TS) : Prop :=
  ∀ (pins : List (Addr × Obj)) (s : Shared) (σ : St) (H : Hp) (D : Ends), Inv X pins σ H s → t D σ H → wpAny (model X.prog X.w) X.A (exec st X.env) (SP X pins D) X.xe s
def PSs (X : Cx) (st : List Stmt) (t : TS) : Prop :=
  ∀ (pins : List (Addr × Obj)) (s : Shared) (σ : St) (H : Hp) (D : Ends), Inv X pins σ H s → t D σ H → wpAny (model X.prog X.w) X.A (execs st X.env) (SP X pins D) X.xe s
/-- weaken the end -/
theorem thn {α : Type} {t : Sem α} {Q Q' : α → Shared → Prop} {M : Model} {A : Around} {E : Value → Shared → Prop} {s : Shared} (h : wpAny M A t Q E s) (hQ : ∀ a s, Q a s → Q' a s) : wpAny M A t Q' E s := wpAny_mono h hQ fun _ _ x => x
end L2

namespace L2
open PySem PySem.Spec PyProof.Rows
section
variable {X : Cx}

/-! ### names and constants -/
def tVar (i : Nat) : TE := fun σ H Q => ∃ v, σ[i]? = some (some v) ∧ Q v H
def tC (v : V) : TE := fun _ H Q => Q v H
theorem pe_var {i : Nat} {x : Str} {pos : Pos} (hN : X.N[i]? = some x) (hv : Vis X.env.scope x) (hd : (x == ("__debug__" : Str)) = false := by decide) (hcd : (x == ("__classdict__" : Str)) = false := by decide) : PE X (.Name x pos) (tVar i) := by
  intro pins s σ H Q I h
  obtain ⟨v, e, h⟩ := h
  obtain ⟨m, hn, hl⟩ := I.loc
  obtain ⟨u, r, l⟩ := hl i x v hN e hv
  have fin : EP X pins σ Q u s := ⟨v, H, I, r, h⟩
  rcases l with ⟨hk, hm⟩ | ⟨hk, c, hc, hcell⟩
  · exact wpAny_Name (wpAny_loadName_local I.ok.kind hk hn hm fin) hd
  · rcases hk with hk | hk
    · exact wpAny_Name (wpAny_loadName_cell I.ok.kind hk hc hcell fin) hd
    · exact wpAny_Name (wpAny_loadName_free I.ok.kind hk hc hcell fin hcd) hd
theorem pe_int {i j pos} : PE X (.Constant (.int i) j pos) (tC (.int i)) := fun _ _ _ H _ I h => wpAny_Constant_int ⟨.int i, H, I.tok _, ⟨_, rfl⟩, h⟩
theorem pe_bl {b j pos} : PE X (.Constant (.bool b) j pos) (tC (.bl b)) := fun _ _ _ H _ I h => Constant_bool ⟨.bl b, H, I, rfl, h⟩
theorem pe_non {j pos} : PE X (.Constant .none j pos) (tC .non) := fun _ _ _ H _ I h => Constant_none ⟨.non, H, I, rfl, h⟩
theorem pe_str {x j pos} : PE X (.Constant (.str x) j pos) (tC (.str x)) := fun _ _ _ H _ I h => Calls.Constant_str ⟨.str x, H, I.tok _, ⟨_, rfl⟩, h⟩

/-- a global name of the def -/
def Gl (X : Cx) (x : Str) : Prop := X.env.kindOf x = some .globalImplicit
theorem ld_glob {E : Value → Shared → Prop} {pins : List (Addr × Obj)} {s : Shared} {σ : St} {H : Hp} {x : Str} {u : Value} {pos : Pos} {Q : Value → Shared → Prop} (I : Inv X pins σ H s) (hg : Gl X x) (hm : X.mg x = some u) (h : Q u s)
    (hd : (x == ("__debug__" : Str)) = false := by decide) : wpAny (model X.prog X.w) X.A (eval (.Name x pos) X.env) Q E s :=
  Calls.Name_function_global I.ok.kind hg (Calls.loadGlobal_global (by rw [I.ok.glob]; exact I.mod.glob.keeps I.bk) hm h) hd
theorem ld_blt {E : Value → Shared → Prop} {pins : List (Addr × Obj)} {s : Shared} {σ : St} {H : Hp} {x : Str} {u : Value} {pos : Pos} {Q : Value → Shared → Prop} (I : Inv X pins σ H s) (hg : Gl X x) (hm : X.mg x = none) (hv : bootBuiltins x = some u) (h : Q u s)
    (hn : x ≠ "__name__" := by decide) (hd : (x == ("__debug__" : Str)) = false := by decide) : wpAny (model X.prog X.w) X.A (eval (.Name x pos) X.env) Q E s := by
  obtain ⟨mb, h1, h2⟩ := I.mod.blt
  exact Calls.Name_function_global I.ok.kind hg (Calls.loadGlobal_builtin (by rw [I.ok.glob]; exact I.mod.glob.keeps I.bk) hm (by rw [I.ok.blt]; exact h1.keeps I.bk) ((h2 x hn).trans hv) h) hd
theorem pe_bltn {x : Str} {v : V} {u : Value} {pos : Pos} (hg : Gl X x) (hm : X.mg x = none) (hv : bootBuiltins x = some u) (r : RelV v u) (hn : x ≠ "__name__" := by decide) (hd : (x == ("__debug__" : Str)) = false := by decide) : PE X (.Name x pos) (tC v) :=
  fun _ _ _ H _ I h => ld_blt I hg hm hv ⟨v, H, I, r, h⟩ hn hd

/-! ### arithmetic -/
variable {a b : Expr} {ta tb : TE} {pos : Pos}
/-! ### comparisons -/
def PC (X : Cx) (op : CmpOp) (a b : Expr) (t : TE) : Prop :=
  ∀ (pins : List (Addr × Obj)) (s : Shared) (σ : St) (H : Hp) (Q : VK), Inv X pins σ H s → t σ H Q →
    wpAny (model X.prog X.w) X.A (eval a X.env) (fun v s₁ => wpAny (model X.prog X.w) X.A (eval b X.env) (fun u s₂ => wpAny (model X.prog X.w) X.A (compareOp op v u) (EP X pins σ Q) X.xe s₂) X.xe s₁) X.xe s
theorem nobehind (b : Expr) {op : CmpOp} (h : op ≠ .In) (h2 : op ≠ .NotIn) : behindInMarks op b = false := by
  have e1 : (op == CmpOp.In) = false := by cases op <;> first | rfl | exact absurd rfl h
  have e2 : (op == CmpOp.NotIn) = false := by cases op <;> first | rfl | exact absurd rfl h2
  cases b <;> simp [behindInMarks, e1, e2]
/-- is None -/
def tIsN (ta : TE) : TE := fun σ H Q => ta σ H fun x H1 => Q (.bl (decide (x = .non))) H1
def tNotN (ta : TE) : TE := fun σ H Q => ta σ H fun x H1 => Q (.bl (!decide (x = .non))) H1
theorem RelV.none_iff {x : V} {v : Value} (r : RelV x v) : (v == Value.none) = decide (x = .non) := by
  cases x with
  | non => cases r; rfl
  | bl _ => cases r; rfl
  | int _ => obtain ⟨t, rfl⟩ := r; rfl
  | str _ => obtain ⟨t, rfl⟩ := r; rfl
  | byt _ => obtain ⟨t, rfl⟩ := r; rfl
  | flt _ => obtain ⟨t, rfl⟩ := r; rfl
  | ref _ => cases r; rfl
  | ty _ => cases r; rfl
theorem pc_isN {j pos'} (ha : PE X a ta) : PC X .Is a (.Constant .none j pos') (tIsN ta) := by
  intro pins s σ H Q I h
  refine thn (ha pins s σ H _ I h) fun v s1 ⟨x, H1, I1, r1, q1⟩ => ?_
  exact Constant_none (is_none_gen ⟨.bl _, H1, I1, by rw [r1.none_iff]; rfl, q1⟩)
theorem pc_notN {j pos'} (ha : PE X a ta) : PC X .IsNot a (.Constant .none j pos') (tNotN ta) := by
  intro pins s σ H Q I h
  refine thn (ha pins s σ H _ I h) fun v s1 ⟨x, H1, I1, r1, q1⟩ => ?_
  exact Constant_none (isnot_none_gen ⟨.bl _, H1, I1, by rw [r1.none_iff]; rfl, q1⟩)
/-- a comparison as a value, as a test -/
def tB (t : TE) : TT := fun σ H Q => t σ H fun x H1 => ∃ c, x = .bl c ∧ Q c H1
theorem pt_cmp {op : CmpOp} {t : TE} (h : PC X op a b t) (h1 : behindInMarks op b = false := by first | exact nobehind _ (by decide) (by decide) | rfl) : PT X (.Compare a [op] [b] pos) (tB t) := by
  intro pins s σ H Q I hw
  refine wpAny_isTrue_Compare1 (thn (h pins s σ H _ I hw) fun v s1 h1 => thn h1 fun u s2 h2 => thn h2 fun c s3 ⟨x, H1, I1, r1, q1⟩ => ?_) h1
  obtain ⟨d, rfl, q⟩ := q1
  cases r1
  exact wpAny_truthy_bool ⟨H1, I1, q⟩
/-- an expression whose value is a bool, as a test -/
theorem pt_val {e : Expr} {t : TE} (h : PE X e t) (he : ∀ whole, isTrue e X.env whole = (do let v ← whole; standAt e.pos; holding [v] (truthy v)) := by intro _; rfl) : PT X e (tB t) := by
  intro pins s σ H Q I hw
  refine isTrue_plain (thn (h pins s σ H _ I hw) fun v s1 ⟨x, H1, I1, r1, q1⟩ => ?_) (he _)
  obtain ⟨d, rfl, q⟩ := q1
  cases r1
  exact wpAny_truthy_bool ⟨H1, I1, q⟩

/-! ### and, or, not -/
variable {tA tB' : TT} {rest : List Expr}
def tAnd (t u : TT) : TT := fun σ H Q => t σ H fun c H1 => if c = true then u σ H1 Q else Q false H1
def tOr (t u : TT) : TT := fun σ H Q => t σ H fun c H1 => if c = true then Q true H1 else u σ H1 Q
def tNot (t : TT) : TT := fun σ H Q => t σ H fun c H1 => Q (!c) H1
theorem pw_and1 (ha : PT X a tA) : PW X (.BoolOp .And [a] pos) tA := by
  intro wh pins s σ H Q I h
  refine isTrue_and (thn (ha pins s σ H Q I h) fun c s1 e => ?_)
  cases c with
  | true => exact isTrue_and_nil e
  | false => exact e
theorem pw_or1 (ha : PT X a tA) : PW X (.BoolOp .Or [a] pos) tA := by
  intro wh pins s σ H Q I h
  refine isTrue_or (thn (ha pins s σ H Q I h) fun c s1 e => ?_)
  cases c with
  | false => exact isTrue_or_nil e
  | true => exact e
theorem pw_and (ha : PT X a tA) (hb : PW X (.BoolOp .And (b :: rest) pos) tB') : PW X (.BoolOp .And (a :: b :: rest) pos) (tAnd tA tB') := by
  intro wh pins s σ H Q I h
  refine isTrue_and (thn (ha pins s σ H _ I h) fun c s1 ⟨H1, I1, q1⟩ => ?_)
  cases c with
  | true => exact hb wh pins s1 σ H1 Q I1 q1
  | false => exact ⟨H1, I1, q1⟩
theorem pw_or (ha : PT X a tA) (hb : PW X (.BoolOp .Or (b :: rest) pos) tB') : PW X (.BoolOp .Or (a :: b :: rest) pos) (tOr tA tB') := by
  intro wh pins s σ H Q I h
  refine isTrue_or (thn (ha pins s σ H _ I h) fun c s1 ⟨H1, I1, q1⟩ => ?_)
  cases c with
  | true => exact ⟨H1, I1, q1⟩
  | false => exact hb wh pins s1 σ H1 Q I1 q1
theorem pt_not (ha : PT X a tA) : PT X (.UnaryOp .Not a pos) (tNot tA) := by
  intro pins s σ H Q I h
  exact isTrue_not (ha pins s σ H (fun c H1 => Q (!c) H1) I h)
/-- .. as values (bools) -/
def tAndV (ta tb : TE) : TE := fun σ H Q => ta σ H fun x H1 => ∃ c, x = .bl c ∧ if c = true then tb σ H1 Q else Q (.bl false) H1
theorem pe_one {op} {t : TE} (h : PE X a t) : PE X (.BoolOp op [a] pos) t := fun pins s σ H Q I hw => BoolOp_one (h pins s σ H Q I hw)
theorem pe_and (ha : PE X a ta) (hb : PE X (.BoolOp .And (b :: rest) pos) tb) : PE X (.BoolOp .And (a :: b :: rest) pos) (tAndV ta tb) := by
  intro pins s σ H Q I h
  refine BoolOp_and (thn (ha pins s σ H _ I h) fun v s1 ⟨x, H1, I1, r1, q1⟩ => ?_)
  obtain ⟨c, rfl, q1⟩ := q1
  cases r1
  refine wpAny_truthy_bool ?_
  cases c with
  | true => exact hb pins s1 σ H1 Q I1 q1
  | false => exact ⟨.bl false, H1, I1, rfl, q1⟩
/-- a if t else b -/
def tIf (t : TT) (ta tb : TE) : TE := fun σ H Q => t σ H fun c H1 => if c = true then ta σ H1 Q else tb σ H1 Q
theorem pe_ifExp {c : Expr} (hc : PT X c tA) (ha : PE X a ta) (hb : PE X b tb) : PE X (.IfExp c a b pos) (tIf tA ta tb) := by
  intro pins s σ H Q I h
  refine wpAny_IfExp (thn (hc pins s σ H _ I h) fun d s1 ⟨H1, I1, q1⟩ => ?_)
  cases d with
  | true => exact ha pins s1 σ H1 Q I1 q1
  | false => exact hb pins s1 σ H1 Q I1 q1
end
end L2

namespace L2
open PySem PySem.Spec PyProof.Rows

/-! ### a list, a tuple that is read: tracked, frozen, or an object of the module -/
def SqL (K : PySem.W.Frag) (H : Hp) (a : Addr) (xs : List V) : Prop :=
  Rd H a (.lst xs) ∨
    ∃ (o : Obj) (its : Array Value) (n : Nat), K.lookup a = some o ∧ o.cls = .type "list" ∧ o.dict = none ∧ o.data = .seq its n ∧ its.size ≤ sizeLine ∧ Vals xs its.toList
def SqT (K : PySem.W.Frag) (H : Hp) (a : Addr) (xs : List V) : Prop :=
  Rd H a (.tup xs) ∨
    ∃ (o : Obj) (its : Array Value) (n : Nat), K.lookup a = some o ∧ o.cls = .type "tuple" ∧ o.data = .seq its n ∧ its.size ≤ sizeLine ∧ Vals xs its.toList
def absV : Value → Option V
  | .none => some .non
  | .bool b => some (.bl b)
  | .int i _ => some (.int i)
  | .str x _ => some (.str x)
  | .bytes b _ => some (.byt b)
  | .float b _ => some (.flt b)
  | .ref a => some (.ref a)
  | .type n => some (.ty n)
  | _ => none
theorem RelV.abs {x : V} {u : Value} (r : RelV x u) : absV u = some x := by
  cases x with
  | non => cases r; rfl
  | bl _ => cases r; rfl
  | int _ => obtain ⟨t, rfl⟩ := r; rfl
  | str _ => obtain ⟨t, rfl⟩ := r; rfl
  | byt _ => obtain ⟨t, rfl⟩ := r; rfl
  | flt _ => obtain ⟨t, rfl⟩ := r; rfl
  | ref _ => cases r; rfl
  | ty _ => cases r; rfl
theorem RelV.inj {x y : V} {u : Value} (r : RelV x u) (q : RelV y u) : x = y := Option.some.inj (r.abs.symm.trans q.abs)
theorem Vals.inj : ∀ {xs ys : List V} {us : List Value}, Vals xs us → Vals ys us → xs = ys
  | _, _, _, .nil, .nil => rfl
  | _, _, _, .cons r t, .cons r' t' => by rw [r.inj r', Vals.inj t t']
section
variable {X : Cx} {pins : List (Addr × Obj)} {σ : St} {H : Hp} {s : Shared} {a : Addr} {xs ys : List V}
theorem SqL.of {K : PySem.W.Frag} (h : H a = some (.lst xs)) : SqL K H a xs := .inl (.inl h)
theorem SqT.of {K : PySem.W.Frag} (h : H a = some (.tup xs)) : SqT K H a xs := .inl (.inl h)
theorem Inv.list (I : Inv X pins σ H s) (h : SqL X.K H a xs) : ∃ its : List Value, Vals xs its ∧ PlainL s.heap a its.toArray ∧ xs.length ≤ sizeLine := by
  rcases h with h | ⟨o, its, n, hk, hc, hd, hs, hz, r⟩
  · obtain ⟨z, its, n, r, e⟩ := h.ok I.hok
    exact ⟨its, r, ⟨_, n, e, rfl, rfl, rfl⟩, z⟩
  · refine ⟨its.toList, r, ⟨o, n, I.kIn a o hk, hc, hd, by simpa using hs⟩, ?_⟩
    have e := r.length
    simp only [Array.length_toList] at e
    (first | lia | omega)
theorem Inv.tuple (I : Inv X pins σ H s) (h : SqT X.K H a xs) : ∃ its : List Value, Vals xs its ∧ IsTup s.heap a its.toArray ∧ xs.length ≤ sizeLine := by
  rcases h with h | ⟨o, its, n, hk, hc, hs, hz, r⟩
  · obtain ⟨z, its, r, p⟩ := h.ok I.hok
    exact ⟨its, r, p, z⟩
  · refine ⟨its.toList, r, ⟨o, I.kIn a o hk, hc, n, by simpa using hs⟩, ?_⟩
    have e := r.length
    simp only [Array.length_toList] at e
    (first | lia | omega)
theorem Inv.list_inj (I : Inv X pins σ H s) (h : SqL X.K H a xs) (h' : SqL X.K H a ys) : xs = ys := by
  obtain ⟨its, r, ⟨o, n, e, _, _, d⟩, _⟩ := I.list h
  obtain ⟨its', r', ⟨o', n', e', _, _, d'⟩, _⟩ := I.list h'
  rw [e] at e'; cases e'
  rw [d] at d'
  injection d' with d1 _
  have : its = its' := by simpa using congrArg Array.toList d1
  subst this
  exact r.inj r'
end

/-! ### another wish about exceptions -/
abbrev Cx.wish (X : Cx) (E : Value → Shared → Prop) : Cx := { X with xe := E }
/-- no exception leaves -/
abbrev Cx.nox (X : Cx) : Cx := X.wish fun _ _ => False
theorem Cx.Ok.wish {X : Cx} (ok : X.Ok) (E : Value → Shared → Prop) : (X.wish E).Ok :=
  ⟨ok.mod, ok.kind, ok.glob, ok.blt, ok.above, ok.inj, ok.has, ok.cab, ok.hd, ok.frames, ok.stk, ok.exf, ok.bs, ok.bsz, ok.noex, ok.exfs, ok.funs, ok.frf⟩
theorem Cx.Ok.unwish {X : Cx} {E : Value → Shared → Prop} (ok : (X.wish E).Ok) : X.Ok :=
  ⟨ok.mod, ok.kind, ok.glob, ok.blt, ok.above, ok.inj, ok.has, ok.cab, ok.hd, ok.frames, ok.stk, ok.exf, ok.bs, ok.bsz, ok.noex, ok.exfs, ok.funs, ok.frf⟩
section
variable {X : Cx} {pins : List (Addr × Obj)} {σ : St} {H : Hp} {s : Shared} {E : Value → Shared → Prop}
theorem Inv.wish (I : Inv X pins σ H s) (E : Value → Shared → Prop) : Inv (X.wish E) pins σ H s := ⟨I.ok.wish E, I.os, I.bare, I.base, I.loc, I.cell, I.free, I.freeC, I.pin, I.hok, I.len⟩
theorem Inv.unwish (I : Inv (X.wish E) pins σ H s) : Inv X pins σ H s := ⟨I.ok.unwish, I.os, I.bare, I.base, I.loc, I.cell, I.free, I.freeC, I.pin, I.hok, I.len⟩
theorem SP.unwish {D : Ends} {f : Flow} {s' : Shared} (h : SP (X.wish E) pins D f s') : SP X pins D f s' := by
  cases f with
  | next => obtain ⟨σ', H', I, q⟩ := h; exact ⟨σ', H', I.unwish, q⟩
  | brk => obtain ⟨σ', H', I, q⟩ := h; exact ⟨σ', H', I.unwish, q⟩
  | cont => obtain ⟨σ', H', I, q⟩ := h; exact ⟨σ', H', I.unwish, q⟩
  | ret u => obtain ⟨v, σ', H', I, r, q⟩ := h; exact ⟨v, σ', H', I.unwish, r, q⟩
theorem PSs.nox {st : List Stmt} {t : TS} (h : PSs X.nox st t) : PSs X st t := fun pins s σ H D I hw =>
  wpAny_mono (h pins s σ H D (I.wish _) hw) (fun _ _ q => q.unwish) fun _ _ z => False.elim z
end

/-! ### blocks and small statements -/
section
variable {X : Cx} {st : Stmt} {rest : List Stmt} {t u : TS} {e : Expr} {te : TE} {pos : Pos}
def tNext : TS := fun D σ H => D.nx σ H
def tSeq (t u : TS) : TS := fun D σ H => t { D with nx := u D } σ H
theorem pss_nil : PSs X [] tNext := fun _ _ σ H _ I h => wpAny_execs_nil ⟨σ, H, I, h⟩
theorem pss_cons (h1 : PS X st t) (h2 : PSs X rest u) : PSs X (st :: rest) (tSeq t u) := by
  intro pins s σ H D I h
  refine wpAny_execs_cons (thn (h1 pins s σ H { D with nx := u D } I h) fun f s1 q => ?_)
  cases f with
  | next =>
    obtain ⟨σ', H', I', q⟩ := q
    exact h2 pins s1 σ' H' D I' q
  | ret v => exact q
  | brk => exact q
  | cont => exact q
theorem pss_one (h1 : PS X st t) : PSs X [st] t := by
  intro pins s σ H D I h
  refine wpAny_execs_cons (thn (h1 pins s σ H D I h) fun f s1 q => ?_)
  cases f with
  | next => exact wpAny_execs_nil q
  | ret v => exact q
  | brk => exact q
  | cont => exact q
/-- in a def's body nothing is shown -/
theorem Inv.quiet {pins : List (Addr × Obj)} {σ : St} {H : Hp} {s : Shared} (I : Inv X pins σ H s) : interactive X.env = false := by simp [interactive, I.ok.kind]
/-- an expression whose value is dropped -/
def tDrop (te : TE) : TS := fun D σ H => te σ H fun _ H1 => D.nx σ H1
theorem ps_expr (he : PE X e te) (hs : swapsWith e none pos.line X.env = pure false := by rfl) : PS X (.Expr e pos) (tDrop te) := by
  intro pins s σ H D I h
  exact wpAny_Expr_any (thn (he pins s σ H _ I h) fun v s1 ⟨x, H1, I1, r1, q1⟩ => ⟨σ, H1, I1, q1⟩) I.quiet hs
def tRet (te : TE) : TS := fun D σ H => te σ H D.rt
theorem ps_ret (he : PE X e te) : PS X (.Return (some e) pos) (tRet te) := by
  intro pins s σ H D I h
  exact wpAny_Return_some (thn (he pins s σ H _ I h) fun v s1 ⟨x, H1, I1, r1, q1⟩ => ⟨x, σ, H1, I1, r1, q1⟩)
def tIfS (c : TT) (t u : TS) : TS := fun D σ H => c σ H fun b H1 => if b = true then t D σ H1 else u D σ H1
theorem ps_if {c : Expr} {a b : List Stmt} {tc : TT} (hc : PT X c tc) (ha : PSs X a t) (hb : PSs X b u) : PS X (.If c a b pos) (tIfS tc t u) := by
  intro pins s σ H D I h
  refine wpAny_If (thn (hc pins s σ H _ I h) fun d s1 ⟨H1, I1, q1⟩ => ?_)
  cases d with
  | true => exact ha pins s1 σ H1 D I1 q1
  | false => exact hb pins s1 σ H1 D I1 q1
/-- code that the proof never comes to -/
def tNever : TS := fun _ _ _ => False
theorem pss_never {sts : List Stmt} : PSs X sts tNever := fun _ _ _ _ _ _ h => h.elim
end

/-! ### targets -/
abbrev TG := V → St → Hp → (St → Hp → Prop) → Prop
abbrev TGs := List V → St → Hp → (St → Hp → Prop) → Prop
def PG (X : Cx) (target : Expr) (t : TG) : Prop :=
  ∀ (pins : List (Addr × Obj)) (s : Shared) (σ : St) (H : Hp) (v : V) (u : Value) (Q : St → Hp → Prop), Inv X pins σ H s → RelV v u → t v σ H Q →
    wpAny (model X.prog X.w) X.A (assign target X.env u) (fun _ s' => ∃ σ' H', Inv X pins σ' H' s' ∧ Q σ' H') X.xe s
/-- several targets, one after another -/
def PGs (X : Cx) (ts : List Expr) (t : TGs) : Prop :=
  ∀ (pins : List (Addr × Obj)) (s : Shared) (σ : St) (H : Hp) (vs : List V) (us : List Value) (Q : St → Hp → Prop), Inv X pins σ H s → Vals vs us → t vs σ H Q →
    wpAny (model X.prog X.w) X.A (assignInOrder ((assignEach ts X.env).map (·.2)) us) (fun _ s' => ∃ σ' H', Inv X pins σ' H' s' ∧ Q σ' H') X.xe s
/-- o[i] = v, by values -/
abbrev TSet := V → V → V → Hp → (Hp → Prop) → Prop
def PSet (X : Cx) (t : TSet) : Prop :=
  ∀ (pins : List (Addr × Obj)) (s : Shared) (σ : St) (H : Hp) (o i v : V) (ov iv u : Value) (Q : Hp → Prop), Inv X pins σ H s → RelV o ov → RelV i iv → RelV v u → t o i v H Q →
    wpAny (model X.prog X.w) X.A (setItem ov iv u) (fun _ s' => ∃ H', Inv X pins σ H' s' ∧ Q H') X.xe s
section
variable {X : Cx} {pos : Pos}
def gName (i : Nat) : TG := fun v σ H Q => Q (σ.set i (some v)) H
theorem pg_name {i : Nat} {x : Str} (hN : X.N.Nodup) (hi : X.N[i]? = some x) (hx : Loc X.env.scope x) (hf : X.fn x = true ∨ X.env.scope.names.lookup x = some .local := by first | exact .inl rfl | exact .inr rfl | assumption) : PG X (.Name x pos) (gName i) := by
  intro pins s σ H v u Q I r h
  exact wpAny_assign_Name (store_ok I hN hi hx r (fun s' I' => ⟨_, H, I', h⟩) hf)
def gNil : TGs := fun vs σ H Q => vs = [] ∧ Q σ H
def gCons (t : TG) (u : TGs) : TGs := fun vs σ H Q => ∃ v r, vs = v :: r ∧ t v σ H fun σ' H' => u r σ' H' Q
theorem pgs_nil : PGs X [] gNil := by
  intro pins s σ H vs us Q I r h
  obtain ⟨e, h⟩ := h
  subst e
  cases r
  exact assignInOrder_nil ⟨σ, H, I, h⟩
theorem pgs_cons {e : Expr} {es : List Expr} {t : TG} {u : TGs} (h1 : PG X e t) (h2 : PGs X es u)
    (hs : (assignEach (e :: es) X.env).map (·.2) = assign e X.env :: (assignEach es X.env).map (·.2) := by rfl) : PGs X (e :: es) (gCons t u) := by
  intro pins s σ H vs us Q I r h
  obtain ⟨v, vr, e1, h⟩ := h
  subst e1
  cases r with
  | cons r rr =>
    rw [hs]
    refine assignInOrder_cons (thn (h1 pins s σ H _ _ _ I r h) fun _ s1 ⟨σ1, H1, I1, q1⟩ => ?_)
    exact h2 pins s1 σ1 H1 _ _ Q I1 rr q1
/-- (a, b, ..) = a tuple of that length -/
def gTup (K : PySem.W.Frag) (n : Nat) (t : TGs) : TG := fun v σ H Q => ∃ a xs, v = .ref a ∧ SqT K H a xs ∧ xs.length = n ∧ t xs σ H Q
theorem pg_tup {es : List Expr} {k : Nat} {t : TGs} {n : Nat} (hc : X.calm = true) (h : PGs X es t)
    (hn : (assignEach es X.env).length = n := by rfl) (hst : (assignEach es X.env).findIdx? (·.1) = none := by rfl) : PG X (.Tuple es k pos) (gTup X.K n t) := by
  intro pins s σ H v u Q I r hw
  obtain ⟨a, xs, e1, hq, hl, hw⟩ := hw
  subst e1
  cases r
  obtain ⟨its, rv, ht, hz⟩ := I.tuple hq
  refine assign_Tuple_tuple (I.ok.hd hc) ht (by simp [hn, ← hl, rv.length]) hst fun h' hx => ?_
  have I1 : Inv X pins σ H { s with heap := h' } := I.kept (t' := s.toks) fun b o e => hx b o (Nat.ne_of_lt (Heap.lt_size e)) e
  exact h pins _ σ H xs _ Q I1 (by simpa using rv) hw
/-- o[i] = .. -/
def gSub (to ti : TE) (t : TSet) : TG := fun v σ H Q => to σ H fun o H1 => ti σ H1 fun i H2 => t o i v H2 fun H3 => Q σ H3
theorem pg_sub {o i : Expr} {to ti : TE} {t : TSet} (ho : PE X o to) (hi : PE X i ti) (hs : PSet X t)
    (ha : ∀ v, assign (.Subscript o i pos) X.env v = (do
      let ov ← holding [v] (eval o X.env)
      let iv ← holding [v, ov] (eval i X.env)
      standAt pos
      holding [v, ov, iv] (setItem ov iv v)
      release [v, ov, iv] []) := by intro _; rfl) : PG X (.Subscript o i pos) (gSub to ti t) := by
  intro pins s σ H v u Q I r h
  rw [ha]
  refine wpAny_bind (wpAny_holding (thn (ho pins s σ H _ I h) fun ov s1 ⟨x, H1, I1, r1, q1⟩ => ?_))
  refine wpAny_bind (wpAny_holding (thn (hi pins s1 σ H1 _ I1 q1) fun iv s2 ⟨y, H2, I2, r2, q2⟩ => ?_))
  refine wpAny_bind (wpAny_standAt (wpAny_bind (wpAny_holding (thn (hs pins s2 σ H2 x y v ov iv u _ I2 r1 r2 r q2) fun _ s3 ⟨H3, I3, q3⟩ => ?_))))
  exact wpAny_release ⟨σ, H3, I3, q3⟩
/-- target = value -/
def tAsg (te : TE) (g : TG) : TS := fun D σ H => te σ H fun x H1 => g x σ H1 D.nx
theorem ps_asg {tg e : Expr} {te : TE} {g : TG} (he : PE X e te) (hg : PG X tg g) (hs : swapsWithSole [tg] e pos.line X.env = pure false := by rfl) (hw : swappedStores [tg] e X.env = pure none := by rfl)
    (h1 : (assignEach [tg] X.env).map (·.2) = [assign tg X.env] := by rfl) : PS X (.Assign [tg] e pos) (tAsg te g) := by
  intro pins s σ H D I h
  refine wpAny_Assign_stores (thn (he pins s σ H _ I h) fun v s1 ⟨x, H1, I1, r1, q1⟩ => ?_) hs hw
  rw [h1]
  exact thn (hg pins s1 σ H1 x v _ I1 r1 q1) fun _ s2 q => q
/-- name = value -/
theorem ps_set {i : Nat} {x : Str} {e : Expr} {te : TE} {pos' : Pos} (hN : X.N.Nodup) (hi : X.N[i]? = some x) (hx : Loc X.env.scope x) (he : PE X e te) (hs : swapsWith e (some (.Name x pos')) pos.line X.env = pure false := by rfl) (hf : X.fn x = true ∨ X.env.scope.names.lookup x = some .local := by first | exact .inl rfl | exact .inr rfl | assumption) :
    PS X (.Assign [.Name x pos'] e pos) (tAsg te (gName i)) := by
  intro pins s σ H D I h
  refine wpAny_Assign_Name (thn (he pins s σ H _ I h) fun v s1 ⟨y, H1, I1, r1, q1⟩ => ?_) hs
  exact store_ok I1 hN hi hx r1 (fun s2 I2 => ⟨_, H1, I2, q1⟩) hf
end

/-! ### while -/
section
variable {X : Cx} {pos : Pos}
/-- the invariant W with its measure -/
def tWhile (c : TT) (tb : TS) : TS := fun D σ H => ∃ W : Nat → St → Hp → Prop, (∃ m, W m σ H) ∧ ∀ m σ H, W m σ H →
  c σ H fun b H1 => if b = true then ∃ N : St → Hp → Prop, (∀ σ' H', N σ' H' → ∃ m', m' < m ∧ W m' σ' H') ∧ tb { D with nx := N, ct := N, bk := D.nx } σ H1 else D.nx σ H1
theorem ps_while {c : Expr} {body : List Stmt} {tc : TT} {tb : TS} (hp : PassesOwn (model X.prog X.w) X.A X.env X.xe) (hc : PT X c tc) (hb : PSs X body tb) : PS X (.While c body [] pos) (tWhile tc tb) := by
  intro pins s σ H D I h
  obtain ⟨W, ⟨m0, w0⟩, turn⟩ := h
  refine wpAny_While (codeAny_whileLoop (fun n s' => ∃ σ' H', Inv X pins σ' H' s' ∧ W n σ' H') ?_ m0 ⟨σ, H, I, w0⟩)
  rintro n s1 ⟨σ1, H1, I1, w1⟩
  refine wpAny_passesOwn hp (thn (hc pins s1 σ1 H1 _ I1 (turn n σ1 H1 w1)) fun b s2 ⟨H2, I2, q2⟩ => ?_)
  cases b with
  | true =>
    obtain ⟨N, hN, q2⟩ := q2
    rw [if_pos rfl]
    refine wpAny_passesOwn hp (thn (hb pins s2 σ1 H2 _ I2 q2) fun f s3 q3 => ?_)
    cases f with
    | next =>
      obtain ⟨σ3, H3, I3, n3⟩ := q3
      obtain ⟨m', hm, w3⟩ := hN σ3 H3 n3
      exact ⟨m', hm, σ3, H3, I3, w3⟩
    | cont =>
      obtain ⟨σ3, H3, I3, n3⟩ := q3
      obtain ⟨m', hm, w3⟩ := hN σ3 H3 n3
      exact ⟨m', hm, σ3, H3, I3, w3⟩
    | brk => exact q3
    | ret v => exact q3
  | false =>
    rw [if_neg Bool.false_ne_true]
    exact wpAny_execs_nil ⟨σ1, H2, I2, q2⟩
end

/-! ### what a loop or a comprehension walks -/
/-- at turn i: it yields x (the heap may grow), or it stops -/
structure It where
  go : Nat → Hp → Prop
  yld : Nat → Hp → V → Hp → Prop
  stop : Nat → Hp → Prop
/-- the iterator's own objects may turn: they are not the frame's, not pinned, younger than the entry (or a comprehension's own) -/
def FpOk (X : Cx) (pins : List (Addr × Obj)) (H : Hp) (b : Addr) : Prop :=
  H b = none ∧ b ≠ X.env.locals ∧ b ∉ X.fs ∧ (b ∈ X.ex ∨ X.s₀.heap.objs.size ≤ b) ∧ (∀ x c, X.env.cells.lookup x = some c → c ≠ b) ∧ ∀ p ∈ X.pn ++ pins, p.1 ≠ b
theorem Inv.fpOk {X : Cx} {pins : List (Addr × Obj)} {σ : St} {H H' : Hp} {s : Shared} {b : Addr} (I : Inv X pins σ H s) (hb : s.heap.objs.size ≤ b) (hn : H' b = none) : FpOk X pins H' b := by
  refine ⟨hn, Nat.ne_of_gt (Nat.lt_of_lt_of_le I.lt hb), I.nofs hb, .inr (Nat.le_trans I.sz hb), fun x c e z => ?_, fun p hp z => ?_⟩
  · obtain ⟨v, q⟩ := I.cell x c e
    exact absurd (Nat.lt_of_lt_of_le q.lt (by rw [z]; exact hb)) (Nat.lt_irrefl _)
  · exact absurd (Nat.lt_of_lt_of_le (Heap.lt_size (I.pin p hp).1) (by rw [z]; exact hb)) (Nat.lt_irrefl _)
structure Turn (P : Program) (w : World) (K : PySem.W.Frag) (tg : Expr) (J : It) (fp : List Addr) (it : Addr) (tn : Nat → Heap → Prop) : Prop where
  mem : it ∈ fp
  obj : ∀ i h, tn i h → ∀ b ∈ fp, ∃ o, h.get? b = some o ∧ ∀ v, o.data ≠ .cell v
  keep : ∀ i h h', tn i h → (∀ b ∈ fp, ∀ o, h.get? b = some o → h'.get? b = some o) → tn i h'
  item : ∀ (X : Cx), X.prog = P → X.w = w → X.K = K → X.calm = true → ∀ (i : Nat) (pins : List (Addr × Obj)) (s : Shared) (σ : St) (H : Hp) (E : Value → Shared → Prop), Inv X pins σ H s → (∀ b ∈ fp, FpOk X pins H b) → tn i s.heap → J.go i H →
    wpAny (model P w) X.A (pyNext (.ref it)) (fun r s1 => ∃ u, r = some u ∧
      wpAny (model P w) X.A (letOwnedTupleGo tg (.ref it) u) (fun _ s2 => ∃ x H', Inv X pins σ H' s2 ∧ RelV x u ∧ J.yld i H x H' ∧ tn (i + 1) s2.heap ∧ ∀ b ∈ fp, H' b = none) E s1) E s
  done : ∀ (X : Cx), X.prog = P → X.w = w → X.K = K → X.calm = true → ∀ (i : Nat) (pins : List (Addr × Obj)) (s : Shared) (σ : St) (H : Hp) (E : Value → Shared → Prop), Inv X pins σ H s → (∀ b ∈ fp, FpOk X pins H b) → tn i s.heap → J.stop i H →
    wpAny (model P w) X.A (pyNext (.ref it)) (fun r s1 => r = none ∧ Inv X pins σ H s1) E s
  self : ∀ (A : Around) (i : Nat) (s : Shared) (Q : Value → Shared → Prop) (E : Value → Shared → Prop), tn i s.heap → Q (.ref it) s → wpAny (model P w) A (pyIter (.ref it)) Q E s
abbrev TI := St → Hp → (It → Hp → Prop) → Prop
/-- an iterator has come -/
def PIE (X : Cx) (pins : List (Addr × Obj)) (σ : St) (tg : Expr) (R : It → Hp → Prop) (itv : Value) (s2 : Shared) : Prop :=
  ∃ (it : Addr) (fp : List Addr) (tn : Nat → Heap → Prop) (J : It) (H' : Hp), itv = .ref it ∧ Inv X pins σ H' s2 ∧ Turn X.prog X.w X.K tg J fp it tn ∧ tn 0 s2.heap ∧ (∀ b ∈ fp, FpOk X pins H' b) ∧ R J H'
def PI (X : Cx) (tg iter : Expr) (wi : TI) : Prop :=
  ∀ (pins : List (Addr × Obj)) (s : Shared) (σ : St) (H : Hp) (R : It → Hp → Prop), Inv X pins σ H s → wi σ H R →
    wpAny (model X.prog X.w) X.A (eval iter X.env) (fun v s1 => wpAny (model X.prog X.w) X.A (pyIter v) (PIE X pins σ tg R) X.xe s1) X.xe s

/-- the step ahead of the store is nothing for an iterator that keeps no tuple -/
theorem go_of {M : Model} {A : Around} {E : Value → Shared → Prop} {s : Shared} {tg : Expr} {it : Addr} {u : Value} {o : Obj} {n : String} {vs : Array Value} {Q : Unit → Shared → Prop} (ho : s.heap.get? it = some o) (hc : o.cls = .type n) (hd : o.data = .fields vs)
    (hn : ["enumerate", "zip", "dict_itemiterator", "dict_reverseitemiterator", "odict_iterator", "itertools.zip_longest", "itertools.pairwise"].contains n = false) (hQ : Q () s) : wpAny M A (letOwnedTupleGo tg (.ref it) u) Q E s := by
  unfold letOwnedTupleGo
  cases tg <;> first
    | exact wpAny_pure hQ
    | (cases u <;> first
        | exact wpAny_pure hQ
        | (refine wpAny_bind (wpAny_load ho ?_)
           rw [hc, hd]
           show wpAny M A (if (["enumerate", "zip", "dict_itemiterator", "dict_reverseitemiterator", "odict_iterator", "itertools.zip_longest", "itertools.pairwise"].contains n && vs[0]? == some (rawInt _)) = true then _ else _) Q E s
           rw [if_neg (by intro h; rw [hn, Bool.false_and] at h; cases h)]
           exact wpAny_pure hQ))

/-- the list at a, as it stands at each turn (a loop may append to it) -/
def Itl (K : PySem.W.Frag) (a : Addr) : It :=
  ⟨fun i H => ∃ xs x, SqL K H a xs ∧ xs[i]? = some x, fun i H x H' => H' = H ∧ ∀ xs, SqL K H a xs → xs[i]? = some x, fun i H => ∃ xs, SqL K H a xs ∧ xs.length ≤ i⟩
/-- lo, lo + 1, .. (n of them) -/
def Itr (lo : Int) (n : Nat) : It := ⟨fun i _ => i < n, fun i H x H' => H' = H ∧ x = .int (lo + i), fun i _ => n ≤ i⟩
theorem turn_list {P : Program} {w : World} {K : PySem.W.Frag} {tg : Expr} (a it : Addr) : Turn P w K tg (Itl K a) [it] it (fun i h => h.IsListIter it a i) where
  mem := by simp
  obj := fun i h st b hb => by
    have e : b = it := by simpa using hb
    subst e
    obtain ⟨o, e, c, d⟩ := st
    exact ⟨o, e, fun v z => by rw [d] at z; cases z⟩
  keep := fun i h h' st k => st.at fun o e => k it (by simp) o e
  item := by
    intro X hP hw hK hc i pins s σ H E I hf st hg
    subst hP hw hK
    obtain ⟨xs, x, hq, hx⟩ := hg
    obtain ⟨its, rv, p, hz⟩ := I.list hq
    obtain ⟨u, hu, ru⟩ := rv.get hx
    obtain ⟨f0, f1, f2, f3, f4, f5⟩ := hf it (by simp)
    refine wpAny_pyNext_list_item st p.isList (x := u) (by simpa using hu) fun h' st' sb => ?_
    have I1 : Inv X pins σ H { s with heap := h' } := I.turned (t' := s.toks) (fun b o hb e => (sb.2 b hb).trans e) f0 f1 f3 f4 f5
    obtain ⟨o, e, c, d⟩ := id st'
    exact ⟨u, rfl, go_of (s := { s with heap := h' }) e c d (by decide) ⟨x, H, I1, ru, ⟨rfl, fun ys hy => by rw [I.list_inj hy hq]; exact hx⟩, st', fun b hb => (hf b hb).1⟩⟩
  done := by
    intro X hP hw hK hc i pins s σ H E I hf st hg
    subst hP hw hK
    obtain ⟨xs, hq, hx⟩ := hg
    obtain ⟨its, rv, p, hz⟩ := I.list hq
    obtain ⟨f0, f1, f2, f3, f4, f5⟩ := hf it (by simp)
    have hl := rv.length
    exact wpAny_pyNext_list_end (I.ok.hd hc) st p.isList (by simp; (first | lia | omega)) fun h' eb => ⟨rfl, I.turned (t' := s.toks) (fun b o hb e => eb b o hb e) f0 f1 f3 f4 f5⟩
  self := fun _ _ _ _ _ st h => wpAny_pyIter_listiter st h
theorem turn_range {P : Program} {w : World} {K : PySem.W.Frag} {tg : Expr} (it : Addr) (lo : Int) (n : Nat) : Turn P w K tg (Itr lo n) [it] it (fun i h => IsRangeIter h it (lo + (i : Nat) * 1) ((n : Int) - (i : Nat)) 1) where
  mem := by simp
  obj := fun i h st b hb => by
    have e : b = it := by simpa using hb
    subst e
    exact ⟨_, st, fun v z => by
      have z' : Data.fields _ = Data.cell v := z
      cases z'⟩
  keep := fun i h h' st k => k it (by simp) _ st
  item := by
    intro X hP hw hK hc i pins s σ H E I hf st hg
    subst hP hw hK
    obtain ⟨f0, f1, f2, f3, f4, f5⟩ := hf it (by simp)
    have W := Walks.range (prog := X.prog) (w := X.w) (I.ok.hd hc) it lo 1 n
    refine W.item i s _ _ hg st fun v h' tk hv st' kk => ?_
    obtain ⟨t, rfl⟩ := hv
    have I1 : Inv X pins σ H { s with heap := h', toks := tk } := I.turned (fun b o hb e => kk b o (by simpa using hb) e) f0 f1 f3 f4 f5
    refine ⟨_, rfl, go_of (s := { s with heap := h', toks := tk }) (n := "range_iterator") st' rfl rfl (by decide) ⟨.int (lo + i), H, I1, ⟨t, ?_⟩, ⟨rfl, rfl⟩, st', fun b hb => (hf b hb).1⟩⟩
    rw [Int.mul_one]
  done := by
    intro X hP hw hK hc i pins s σ H E I hf st hg
    subst hP hw hK
    obtain ⟨f0, f1, f2, f3, f4, f5⟩ := hf it (by simp)
    exact wpAny_pyNext_range_end (I.ok.hd hc) st (by have : n ≤ i := hg; (first | lia | omega)) fun h' eb => ⟨rfl, I.turned (t' := s.toks) (fun b o hb e => eb b o hb e) f0 f1 f3 f4 f5⟩
  self := fun _ _ _ _ _ st h => wpAny_pyIter_rangeiter st h
end L2

namespace L2
open PySem PySem.Spec PyProof.Rows
section
variable {X : Cx} {tg : Expr}
def iList (K : PySem.W.Frag) (tl : TE) : TI := fun σ H R => tl σ H fun x H1 => ∃ a, x = .ref a ∧ (∃ xs, SqL K H1 a xs) ∧ R (Itl K a) H1
theorem pi_list {l : Expr} {tl : TE} (hl : PE X l tl) : PI X tg l (iList X.K tl) := by
  intro pins s σ H R I h
  refine thn (hl pins s σ H _ I h) fun v s1 ⟨x, H1, I1, r1, q1⟩ => ?_
  obtain ⟨a, e, ⟨xs, hq⟩, q⟩ := q1
  subst e
  cases r1
  obtain ⟨its, rv, p, hz⟩ := I1.list hq
  refine wpAny_pyIter_list p.isList ?_
  refine ⟨s1.heap.objs.size, [s1.heap.objs.size], _, _, H1, rfl, I1.kept (t' := s1.toks) fun b o e => Heap.get?_push_of_some _ e, turn_list a _, ⟨_, Heap.get?_push_size _ rfl, rfl, rfl⟩, fun b hb => ?_, q⟩
  have e : b = s1.heap.objs.size := by simpa using hb
  subst e
  exact I1.fpOk (Nat.le_refl _) (I1.hok.fresh (Nat.le_refl _))
/-- a range object just made, walked -/
theorem range_it {pins : List (Addr × Obj)} {σ : St} {H : Hp} {s : Shared} {R : It → Hp → Prop} {E : Value → Shared → Prop} {lo hi : Int} {t u v : Tok} {tk : Nat} (I : Inv X pins σ H s) (h1 : -(2 ^ 62) ≤ lo) (h2 : lo < 2 ^ 62) (h3 : -(2 ^ 62) ≤ hi) (h4 : hi < 2 ^ 62)
    (q : R (Itr lo (hi - lo).toNat) H) : wpAny (model X.prog X.w) X.A (pyIter (.ref s.heap.objs.size)) (PIE X pins σ tg R) E { s with heap := s.heap.push { cls := .type "range", data := .fields #[.int lo t, .int hi u, .int 1 v] }, toks := tk } := by
  refine wpAny_pyIter_range (IsRange.new ..) (small_one h1 h2 h3 h4) ?_
  have I1 : Inv X pins σ H { s with heap := s.heap.push { cls := .type "range", data := .fields #[.int lo t, .int hi u, .int 1 v] }, toks := tk } := I.kept fun b o e => Heap.get?_push_of_some _ e
  refine ⟨(s.heap.push { cls := .type "range", data := .fields #[.int lo t, .int hi u, .int 1 v] }).objs.size, [(s.heap.push { cls := .type "range", data := .fields #[.int lo t, .int hi u, .int 1 v] }).objs.size], _, _, H, rfl,
    I1.kept (t' := tk) fun b o e => Heap.get?_push_of_some _ e, turn_range _ lo (hi - lo).toNat, ?_, fun b hb => ?_, q⟩
  · have e1 : lo + ((0 : Nat) : Int) * 1 = lo := by simp
    have e2 : (((hi - lo).toNat : Nat) : Int) - ((0 : Nat) : Int) = Builtin.Range.rangeSize lo hi 1 := by rw [rangeSize_one]; split <;> (first | lia | omega)
    show IsRangeIter _ _ (lo + ((0 : Nat) : Int) * 1) ((((hi - lo).toNat : Nat) : Int) - ((0 : Nat) : Int)) 1
    rw [e1, e2]
    exact Heap.get?_push_size _ rfl
  · have e : b = (s.heap.push { cls := .type "range", data := .fields #[.int lo t, .int hi u, .int 1 v] }).objs.size := by simpa using hb
    subst e
    exact I1.fpOk (Nat.le_refl _) (I1.hok.fresh (Nat.le_refl _))
def iRng1 (ta : TA) : TI := fun σ H R => ta σ H fun vs H1 => ∃ j : Int, vs = [.int j] ∧ -(2 ^ 62) ≤ j ∧ j < 2 ^ 62 ∧ R (Itr 0 j.toNat) H1
def iRng2 (ta : TA) : TI := fun σ H R => ta σ H fun vs H1 => ∃ i j : Int, vs = [.int i, .int j] ∧ (-(2 ^ 62) ≤ i ∧ i < 2 ^ 62 ∧ -(2 ^ 62) ≤ j ∧ j < 2 ^ 62) ∧ R (Itr i (j - i).toNat) H1
theorem pi_range1 {a : Expr} {ta : TA} {p pos : Pos} (hg : Gl X "range") (hm : X.mg "range" = none) (ha : PA X [a] ta) (hs : starEach [a] X.env = [(false, eval a X.env)] := by rfl) : PI X tg (.Call (.Name "range" p) [a] [] pos) (iRng1 ta) := by
  intro pins s σ H R I h
  refine Call_ (ld_blt I hg hm boot_range (PyProof.Rows.callWith_type1 (thn (ha pos pins s σ H _ I h) fun us s1 ⟨vs, H1, I1, r1, q1⟩ => ?_) hs rfl))
  obtain ⟨j, e, q1, q2, q⟩ := q1
  subst e
  cases r1 with
  | cons r rr =>
    cases rr
    obtain ⟨t, rfl⟩ := r
    exact call_range_1 (range_it I1 (by (first | lia | omega)) (by (first | lia | omega)) q1 q2 (by simpa using q))
theorem pi_range2 {a b : Expr} {ta : TA} {p pos : Pos} (hg : Gl X "range") (hm : X.mg "range" = none) (ha : PA X [a, b] ta) (hs : starEach [a, b] X.env = [(false, eval a X.env), (false, eval b X.env)] := by rfl) (hs2 : starEach [b] X.env = [(false, eval b X.env)] := by rfl) :
    PI X tg (.Call (.Name "range" p) [a, b] [] pos) (iRng2 ta) := by
  intro pins s σ H R I h
  refine Call_ (ld_blt I hg hm boot_range (PyProof.Rows.callWith_type1 (thn (ha pos pins s σ H _ I h) fun us s1 ⟨vs, H1, I1, r1, q1⟩ => ?_) (by rw [hs, hs2]) (by rw [hs2]; rfl)))
  obtain ⟨i, j, e, ⟨q1, q2, q3, q4⟩, q⟩ := q1
  subst e
  cases r1 with
  | cons r rr =>
    cases rr with
    | cons r' rr =>
      cases rr
      obtain ⟨t, rfl⟩ := r
      obtain ⟨t', rfl⟩ := r'
      exact call_range_2 (range_it I1 q1 q2 q3 q4 q)

/-! ### for -/
/-- W: the invariant by the turn and a measure; N: what the body is to reach -/
def tFor (wi : TI) (g : TG) (tb : TS) : TS := fun D σ H => wi σ H fun J H1 => ∃ W : Nat → Nat → St → Hp → Prop, (∃ m, W 0 m σ H1) ∧ ∀ i m σ H, W i m σ H →
  (J.stop i H ∧ D.nx σ H) ∨ (J.go i H ∧ ∃ N : St → Hp → Prop, (∀ σ' H', N σ' H' → ∃ m', m' < m ∧ W (i + 1) m' σ' H') ∧ ∀ x H', J.yld i H x H' → g x σ H' fun σ2 H2 => tb { D with nx := N, ct := N, bk := D.nx } σ2 H2)
/-- the records at fp as they stand -/
def pinsAt (fp : List Addr) (h : Heap) : List (Addr × Obj) := fp.filterMap fun b => (h.get? b).map fun o => (b, o)
theorem mem_pinsAt {fp : List Addr} {h : Heap} {b : Addr} {o : Obj} (hb : b ∈ fp) (e : h.get? b = some o) : (b, o) ∈ pinsAt fp h := List.mem_filterMap.mpr ⟨b, hb, by rw [e]; rfl⟩
theorem of_pinsAt {fp : List Addr} {h : Heap} {p : Addr × Obj} (hp : p ∈ pinsAt fp h) : p.1 ∈ fp ∧ h.get? p.1 = some p.2 := by
  obtain ⟨b, hb, e⟩ := List.mem_filterMap.mp hp
  cases q : h.get? b with
  | none => rw [q] at e; cases e
  | some o =>
    rw [q] at e
    have e' : (b, o) = p := Option.some.inj e
    subst e'
    exact ⟨hb, q⟩
theorem Inv.pinned {pins : List (Addr × Obj)} {σ : St} {H : Hp} {s : Shared} {fp : List Addr} (I : Inv X pins σ H s) (hf : ∀ b ∈ fp, FpOk X pins H b) (ho : ∀ b ∈ fp, ∃ o, s.heap.get? b = some o ∧ ∀ v, o.data ≠ .cell v) : Inv X (pins ++ pinsAt fp s.heap) σ H s :=
  I.pins_of fun p hp => (List.mem_append.mp hp).elim (fun z => I.pin p (List.mem_append_right _ z)) fun z => by
    obtain ⟨hb, e⟩ := of_pinsAt z
    obtain ⟨f0, f1, f2, _⟩ := hf p.1 hb
    obtain ⟨o, e', d⟩ := ho p.1 hb
    rw [e] at e'; cases e'
    exact ⟨e, f0, f1, f2, d⟩
theorem Inv.unpinned {pins pl : List (Addr × Obj)} {σ : St} {H : Hp} {s : Shared} (I : Inv X (pins ++ pl) σ H s) : Inv X pins σ H s := I.pins_of fun p hp => I.pin p (List.mem_append_right _ (List.mem_append_left _ hp))
theorem ps_for {iter : Expr} {body : List Stmt} {wi : TI} {g : TG} {tb : TS} {pos : Pos} (hp : PassesOwn (model X.prog X.w) X.A X.env X.xe) (hc : X.calm = true) (hi : PI X tg iter wi) (hg : PG X tg g) (hb : PSs X body tb)
    (hs : ∀ x, foldedSetIterable iter X.env x = pure x := by intro _; rfl) : PS X (.For tg iter body [] pos) (tFor wi g tb) := by
  intro pins s σ H D I h
  refine wpAny_For (thn (hi pins s σ H _ I h) fun v s1 h1 => thn h1 fun itv s2 h2 => ?_) hs
  obtain ⟨it, fp, tn, J, H2, e, I2, T, st2, f2, W, ⟨m0, w0⟩, turn⟩ := h2
  subst e
  -- what stays true of the iterator's objects through the loop
  have stat : ∀ {H' : Hp}, (∀ b ∈ fp, H' b = none) → ∀ b ∈ fp, FpOk X pins H' b := fun hn b hb => ⟨hn b hb, (f2 b hb).2⟩
  refine codeAny_forLoop_any (fun n s' => ∃ i σ' H', Inv X pins σ' H' s' ∧ tn i s'.heap ∧ (∀ b ∈ fp, H' b = none) ∧ W i n σ' H') ?_ m0 ⟨0, σ, H2, I2, st2, fun b hb => (f2 b hb).1, w0⟩
  rintro n s3 ⟨i, σ3, H3, I3, st3, fr3, w3⟩
  rcases turn i n σ3 H3 w3 with ⟨stop, qn⟩ | ⟨go, N, hN, step⟩
  · refine wpAny_passesOwn hp (thn (T.done X rfl rfl rfl hc i pins s3 σ3 H3 X.xe I3 (stat fr3) st3 stop) fun r s4 ⟨hr, I4⟩ => ?_)
    subst hr
    exact wpAny_execs_nil ⟨σ3, H3, I4, qn⟩
  · refine wpAny_passesOwn hp (thn (T.item X rfl rfl rfl hc i pins s3 σ3 H3 X.xe I3 (stat fr3) st3 go) fun r s4 ⟨u, hr, h4⟩ => ?_)
    subst hr
    refine wpAny_passesOwn hp (thn h4 fun _ s5 ⟨x, H5, I5, r5, y5, st5, fr5⟩ => ?_)
    have I5' := I5.pinned (stat fr5) (T.obj _ _ st5)
    refine wpAny_passesOwn hp (thn (hg _ s5 σ3 H5 x u _ I5' r5 (step x H5 y5)) fun _ s6 ⟨σ6, H6, I6, q6⟩ => ?_)
    refine wpAny_passesOwn hp (thn (hb _ s6 σ6 H6 _ I6 q6) fun f s7 q7 => ?_)
    have again : ∀ {σ7 : St} {H7 : Hp}, Inv X (pins ++ pinsAt fp s5.heap) σ7 H7 s7 → N σ7 H7 → ∃ m, m < n ∧ ∃ i σ' H', Inv X pins σ' H' s7 ∧ tn i s7.heap ∧ (∀ b ∈ fp, H' b = none) ∧ W i m σ' H' := fun {σ7 H7} I7 n7 => by
      obtain ⟨m', hm, w7⟩ := hN σ7 H7 n7
      refine ⟨m', hm, i + 1, σ7, H7, I7.unpinned, T.keep _ _ _ st5 fun b hb o e => (I7.pin (b, o) (List.mem_append_right _ (List.mem_append_right _ (mem_pinsAt hb e)))).1, fun b hb => ?_, w7⟩
      obtain ⟨o, e, d⟩ := T.obj _ _ st5 b hb
      exact (I7.pin (b, o) (List.mem_append_right _ (List.mem_append_right _ (mem_pinsAt hb e)))).2.1
    cases f with
    | next => obtain ⟨σ7, H7, I7, n7⟩ := q7; exact again I7 n7
    | cont => obtain ⟨σ7, H7, I7, n7⟩ := q7; exact again I7 n7
    | brk => obtain ⟨σ7, H7, I7, q7⟩ := q7; exact ⟨σ7, H7, I7.unpinned, q7⟩
    | ret v => obtain ⟨x7, σ7, H7, I7, r7, q7⟩ := q7; exact ⟨x7, σ7, H7, I7.unpinned, r7, q7⟩
end

/-! ### the forms one uses -/
/-- over a list that the body leaves as it is -/
theorem for_list {K : PySem.W.Frag} {a : Addr} {xs : List V} {g : TG} {tb : TS} {D : Ends} {σ : St} {H : Hp} (Pv : Nat → St → Hp → Prop) (h0 : Pv 0 σ H) (hl : ∀ i σ H, i ≤ xs.length → Pv i σ H → SqL K H a xs)
    (hs : ∀ i x σ H, xs[i]? = some x → Pv i σ H → g x σ H fun σ2 H2 => tb { D with nx := Pv (i + 1), ct := Pv (i + 1), bk := D.nx } σ2 H2) (hd : ∀ σ H, Pv xs.length σ H → D.nx σ H) :
    ∃ W : Nat → Nat → St → Hp → Prop, (∃ m, W 0 m σ H) ∧ ∀ i m σ H, W i m σ H →
      ((Itl K a).stop i H ∧ D.nx σ H) ∨ ((Itl K a).go i H ∧ ∃ N : St → Hp → Prop, (∀ σ' H', N σ' H' → ∃ m', m' < m ∧ W (i + 1) m' σ' H') ∧ ∀ x H', (Itl K a).yld i H x H' → g x σ H' fun σ2 H2 => tb { D with nx := N, ct := N, bk := D.nx } σ2 H2) := by
  refine ⟨fun i m σ H => m = xs.length - i ∧ i ≤ xs.length ∧ Pv i σ H, ⟨xs.length, by simp, Nat.zero_le _, h0⟩, ?_⟩
  rintro i m σ H ⟨rfl, hi, p⟩
  have q := hl i σ H hi p
  by_cases hlt : i < xs.length
  · refine .inr ⟨⟨xs, xs[i], q, by simp [hlt]⟩, Pv (i + 1), fun σ' H' p' => ⟨xs.length - (i + 1), by (first | lia | omega), rfl, hlt, p'⟩, fun x H' y => ?_⟩
    obtain ⟨e, y⟩ := y
    subst e
    exact hs i x σ _ (y xs q) p
  · have e : i = xs.length := by (first | lia | omega)
    subst e
    exact .inl ⟨⟨xs, q, Nat.le_refl _⟩, hd σ H p⟩
theorem for_range {lo : Int} {n : Nat} {g : TG} {tb : TS} {D : Ends} {σ : St} {H : Hp} (Pv : Nat → St → Hp → Prop) (h0 : Pv 0 σ H)
    (hs : ∀ i σ H, i < n → Pv i σ H → g (.int (lo + i)) σ H fun σ2 H2 => tb { D with nx := Pv (i + 1), ct := Pv (i + 1), bk := D.nx } σ2 H2) (hd : ∀ σ H, Pv n σ H → D.nx σ H) :
    ∃ W : Nat → Nat → St → Hp → Prop, (∃ m, W 0 m σ H) ∧ ∀ i m σ H, W i m σ H →
      ((Itr lo n).stop i H ∧ D.nx σ H) ∨ ((Itr lo n).go i H ∧ ∃ N : St → Hp → Prop, (∀ σ' H', N σ' H' → ∃ m', m' < m ∧ W (i + 1) m' σ' H') ∧ ∀ x H', (Itr lo n).yld i H x H' → g x σ H' fun σ2 H2 => tb { D with nx := N, ct := N, bk := D.nx } σ2 H2) := by
  refine ⟨fun i m σ H => m = n - i ∧ i ≤ n ∧ Pv i σ H, ⟨n, by simp, Nat.zero_le _, h0⟩, ?_⟩
  rintro i m σ H ⟨rfl, hi, p⟩
  by_cases hlt : i < n
  · refine .inr ⟨hlt, Pv (i + 1), fun σ' H' p' => ⟨n - (i + 1), by (first | lia | omega), rfl, hlt, p'⟩, fun x H' y => ?_⟩
    obtain ⟨e, y⟩ := y
    subst e y
    exact hs i σ _ hlt p
  · have e : i = n := by (first | lia | omega)
    subst e
    exact .inl ⟨Nat.le_refl _, hd σ H p⟩
end L2

namespace L2
open PySem PySem.Spec PyProof.Rows

abbrev R2 := V → V → Hp → VK → Prop
/-- a two-place operation on values: f is binaryOp op, inplaceOp op or compareOp op -/
def OpR (X : Cx) (f : Value → Value → Sem Value) (r : R2) : Prop :=
  ∀ (pins : List (Addr × Obj)) (s : Shared) (σ : St) (H : Hp) (x y : V) (v u : Value) (Q : VK), Inv X pins σ H s → RelV x v → RelV y u → r x y H Q →
    wpAny (model X.prog X.w) X.A (f v u) (EP X pins σ Q) X.xe s
/-- a one-place operation -/
def UnR (X : Cx) (f : Value → Sem Value) (r : V → Hp → VK → Prop) : Prop :=
  ∀ (pins : List (Addr × Obj)) (s : Shared) (σ : St) (H : Hp) (x : V) (v : Value) (Q : VK), Inv X pins σ H s → RelV x v → r x H Q →
    wpAny (model X.prog X.w) X.A (f v) (EP X pins σ Q) X.xe s
/-- a call of a value that is known (a builtin, a type) with values -/
def CallR (X : Cx) (f : Value) (r : List V → Hp → VK → Prop) : Prop :=
  ∀ (pins : List (Addr × Obj)) (s : Shared) (σ : St) (H : Hp) (xs : List V) (us : List Value) (Q : VK), Inv X pins σ H s → Vals xs us → r xs H Q →
    wpAny (model X.prog X.w) X.A (call f us) (EP X pins σ Q) X.xe s
def tOp (r : R2) (ta tb : TE) : TE := fun σ H Q => ta σ H fun x H1 => tb σ H1 fun y H2 => r x y H2 Q
def tUn (r : V → Hp → VK → Prop) (ta : TE) : TE := fun σ H Q => ta σ H fun x H1 => r x H1 Q
/-- ints in, under C, and a value out -/
def rI (C : Int → Int → Prop) (g : Int → Int → V) : R2 := fun x y H Q => ∃ i j, x = .int i ∧ y = .int j ∧ C i j ∧ Q (g i j) H
def rI0 (g : Int → Int → V) : R2 := fun x y H Q => ∃ i j, x = .int i ∧ y = .int j ∧ Q (g i j) H
def rU (g : Int → V) : V → Hp → VK → Prop := fun x H Q => ∃ i, x = .int i ∧ Q (g i) H

section
variable {X : Cx} {a b c : Expr} {ta tb tc : TE} {pos : Pos}

theorem binT (ha : PE X a ta) (hb : PE X b tb) {pins : List (Addr × Obj)} {s : Shared} {σ : St} {H : Hp} {R : V → V → Hp → Prop} (I : Inv X pins σ H s)
    (h : ta σ H fun x H1 => tb σ H1 fun y H2 => R x y H2) {Q : Value → Shared → Prop} {f : Value → Value → Sem Value}
    (hf : ∀ v u s2 x y H2, Inv X pins σ H2 s2 → RelV x v → RelV y u → R x y H2 → wpAny (model X.prog X.w) X.A (f v u) Q X.xe s2) :
    wpAny (model X.prog X.w) X.A (eval a X.env) (fun v s₁ => wpAny (model X.prog X.w) X.A (eval b X.env) (fun u s₂ => wpAny (model X.prog X.w) X.A (f v u) Q X.xe s₂) X.xe s₁) X.xe s := by
  refine thn (ha pins s σ H _ I h) fun v s1 ⟨x, H1, I1, r1, q1⟩ => ?_
  refine thn (hb pins s1 σ H1 _ I1 q1) fun u s2 ⟨y, H2, I2, r2, q2⟩ => ?_
  exact hf v u s2 x y H2 I2 r1 r2 q2

theorem pe_op {op : Operator} {r : R2} (ho : OpR X (binaryOp op) r) (ha : PE X a ta) (hb : PE X b tb) : PE X (.BinOp a op b pos) (tOp r ta tb) := by
  intro pins s σ H Q I h
  exact wpAny_BinOp (binT ha hb I h fun v u s2 x y H2 I2 rx ry q => ho pins s2 σ H2 x y v u Q I2 rx ry q)
theorem pe_un {op : UnaryOp} {r : V → Hp → VK → Prop} (ho : UnR X (unaryOp op) r) (ha : PE X a ta) : PE X (.UnaryOp op a pos) (tUn r ta) := by
  intro pins s σ H Q I h
  exact UnaryOp_ (thn (ha pins s σ H _ I h) fun v s1 ⟨x, H1, I1, r1, q1⟩ => ho pins s1 σ H1 x v Q I1 r1 q1)
/-! ### ints -/
theorem opI {f : Value → Value → Sem Value} {C : Int → Int → Prop} {g : Int → Int → Int}
    (rule : ∀ (i j : Int) (t u : Tok) (s : Shared) (Q : Value → Shared → Prop) (E : Value → Shared → Prop), C i j → Q (.int (g i j) s.toks) { s with toks := s.toks + 1 } → wpAny (model X.prog X.w) X.A (f (.int i t) (.int j u)) Q E s) :
    OpR X f (rI C fun i j => .int (g i j)) := by
  intro pins s σ H x y v u Q I rx ry h
  obtain ⟨i, j, rfl, rfl, hc, q⟩ := h
  obtain ⟨t, rfl⟩ := rx
  obtain ⟨t', rfl⟩ := ry
  exact rule i j t t' s _ _ hc ⟨.int (g i j), H, I.tok _, ⟨_, rfl⟩, q⟩
theorem opI0 {f : Value → Value → Sem Value} {g : Int → Int → Int}
    (rule : ∀ (i j : Int) (t u : Tok) (s : Shared) (Q : Value → Shared → Prop) (E : Value → Shared → Prop), Q (.int (g i j) s.toks) { s with toks := s.toks + 1 } → wpAny (model X.prog X.w) X.A (f (.int i t) (.int j u)) Q E s) :
    OpR X f (rI0 fun i j => .int (g i j)) := by
  intro pins s σ H x y v u Q I rx ry h
  obtain ⟨i, j, rfl, rfl, q⟩ := h
  obtain ⟨t, rfl⟩ := rx
  obtain ⟨t', rfl⟩ := ry
  exact rule i j t t' s _ _ ⟨.int (g i j), H, I.tok _, ⟨_, rfl⟩, q⟩
theorem opB0 {f : Value → Value → Sem Value} {g : Int → Int → Bool}
    (rule : ∀ (i j : Int) (t u : Tok) (s : Shared) (Q : Value → Shared → Prop) (E : Value → Shared → Prop), Q (.bool (g i j)) s → wpAny (model X.prog X.w) X.A (f (.int i t) (.int j u)) Q E s) :
    OpR X f (rI0 fun i j => .bl (g i j)) := by
  intro pins s σ H x y v u Q I rx ry h
  obtain ⟨i, j, rfl, rfl, q⟩ := h
  obtain ⟨t, rfl⟩ := rx
  obtain ⟨t', rfl⟩ := ry
  exact rule i j t t' s _ _ ⟨.bl (g i j), H, I, rfl, q⟩

def CDiv (i j : Int) : Prop := 0 < j ∧ j < 1073741824
def CMul (i j : Int) : Prop := (-(2 ^ 64) < i ∧ i < 2 ^ 64) ∨ (-(2 ^ 64) < j ∧ j < 2 ^ 64)
theorem CMul.ok {i j : Int} (h : CMul i j) : IntMulOk i j := by
  rcases h with ⟨h1, h2⟩ | ⟨h1, h2⟩
  · exact .of_left (intBits_le_64 h1 h2)
  · exact .of_right (intBits_le_64 h1 h2)
theorem op_add : OpR X (binaryOp .Add) (rI0 fun i j => .int (i + j)) := opI0 fun _ _ _ _ _ _ _ q => add_int q
theorem op_sub : OpR X (binaryOp .Sub) (rI0 fun i j => .int (i - j)) := opI0 fun _ _ _ _ _ _ _ q => sub_int q
theorem op_mul : OpR X (binaryOp .Mult) (rI CMul fun i j => .int (i * j)) := opI fun _ _ _ _ _ _ _ hc q => mul_int q hc.ok
/-- // by a positive divisor -/
theorem op_fdiv : OpR X (binaryOp .FloorDiv) (rI CDiv fun i j => .int (i / j)) := opI fun i j _ _ _ _ _ hc q => by
  have h1 : (0 : Int) < j := hc.1
  have h2 : j < 1073741824 := hc.2
  exact floordiv_int (by (first | lia | omega)) (by rw [Int.fdiv_eq_ediv_of_nonneg i (by (first | lia | omega))]; exact q) (.inl (PyProof.noPylong_small (by (first | lia | omega))))
/-- % by a positive divisor of any size -/
theorem op_mod : OpR X (binaryOp .Mod) (rI (fun _ j => 0 < j) fun i j => .int (i % j)) := opI fun i j _ _ _ _ _ hc q => by
  have h1 : (0 : Int) < j := hc
  exact mod_int' (by (first | lia | omega)) (by rw [Int.fmod_eq_emod_of_nonneg i (by (first | lia | omega))]; exact q)
theorem unI {f : Value → Sem Value} {g : Int → Int}
    (rule : ∀ (i : Int) (t : Tok) (s : Shared) (Q : Value → Shared → Prop) (E : Value → Shared → Prop), Q (.int (g i) s.toks) { s with toks := s.toks + 1 } → wpAny (model X.prog X.w) X.A (f (.int i t)) Q E s) :
    UnR X f (rU fun i => .int (g i)) := by
  intro pins s σ H x v Q I rx h
  obtain ⟨i, rfl, q⟩ := h
  obtain ⟨t, rfl⟩ := rx
  exact rule i t s _ _ ⟨.int (g i), H, I.tok _, ⟨_, rfl⟩, q⟩
theorem un_neg : UnR X (unaryOp .USub) (rU fun i => .int (-i)) := unI fun _ _ _ _ _ q => neg_int q
/-! ### bools among ints: n += (a < b) -/
end

/-! ### comparisons -/
/-- the scalars that == tells apart as data does -/
def scal : V → V → Bool
  | .non, .non => true | .non, .int _ => true | .int _, .non => true | .non, .bl _ => true | .bl _, .non => true | .non, .str _ => true | .str _, .non => true
  | .int _, .int _ => true | .bl _, .bl _ => true | .str _, .str _ => true | .byt _, .byt _ => true
  | .int _, .str _ => true | .str _, .int _ => true | .bl _, .str _ => true | .str _, .bl _ => true
  | _, _ => false
def rEq : R2 := fun x y H Q => scal x y = true ∧ Q (.bl (decide (x = y))) H
def rNe : R2 := fun x y H Q => scal x y = true ∧ Q (.bl (!decide (x = y))) H

theorem dec_int {i j : Int} : decide (V.int i = V.int j) = (i == j) := by
  rw [Bool.eq_iff_iff]
  simp
theorem dec_bl {i j : Bool} : decide (V.bl i = V.bl j) = (i == j) := by
  rw [Bool.eq_iff_iff]
  simp
theorem dec_str {i j : Str} : decide (V.str i = V.str j) = (i == j) := by
  rw [Bool.eq_iff_iff]
  simp
theorem dec_byt {i j : Array UInt8} : decide (V.byt i = V.byt j) = (i.toList == j.toList) := by
  rw [Bool.eq_iff_iff]
  cases i
  cases j
  simp

section
variable {X : Cx} {a b c : Expr} {ta tb tc : TE} {pos : Pos}
theorem fin_bl {pins : List (Addr × Obj)} {σ : St} {H : Hp} {s : Shared} {Q : VK} {k k' : Bool} (I : Inv X pins σ H s) (q : Q (.bl k) H) (e : k = k') : EP X pins σ Q (.bool k') s := by
  subst e
  exact ⟨.bl k, H, I, rfl, q⟩
theorem op_eq : OpR X (compareOp .Eq) rEq := by
  intro pins s σ H x y v u Q I rx ry h
  obtain ⟨hs, q⟩ := h
  cases x with
  | non =>
    cases rx
    cases y with
    | non => cases ry; exact PySem.EqNone.eq_none_none (fin_bl I q (by simp))
    | bl j => cases ry; exact PySem.EqNone.eq_none_bool (fin_bl I q (by simp))
    | int j => obtain ⟨t', rfl⟩ := ry; exact PySem.EqNone.eq_none_int (fin_bl I q (by simp))
    | str j => obtain ⟨t', rfl⟩ := ry; exact PySem.EqNone.eq_none_str (fin_bl I q (by simp))
    | _ => exact absurd (show false = true from hs) Bool.false_ne_true
  | bl i =>
    cases rx
    cases y with
    | non => cases ry; exact PySem.EqNone.eq_bool_none (fin_bl I q (by simp))
    | bl j => cases ry; exact eq_bool (fin_bl I q dec_bl)
    | str j => obtain ⟨t', rfl⟩ := ry; exact PySem.EqMixed.eq_bool_str (fin_bl I q (by simp))
    | _ => exact absurd (show false = true from hs) Bool.false_ne_true
  | int i =>
    obtain ⟨t, rfl⟩ := rx
    cases y with
    | non => cases ry; exact PySem.EqNone.eq_int_none (fin_bl I q (by simp))
    | int j => obtain ⟨t', rfl⟩ := ry; exact eq_int (fin_bl I q dec_int)
    | str j => obtain ⟨t', rfl⟩ := ry; exact PySem.EqMixed.eq_int_str (fin_bl I q (by simp))
    | _ => exact absurd (show false = true from hs) Bool.false_ne_true
  | str i =>
    obtain ⟨t, rfl⟩ := rx
    cases y with
    | non => cases ry; exact PySem.EqNone.eq_str_none (fin_bl I q (by simp))
    | bl j => cases ry; exact PySem.EqMixed.eq_str_bool (fin_bl I q (by simp))
    | int j => obtain ⟨t', rfl⟩ := ry; exact PySem.EqMixed.eq_str_int (fin_bl I q (by simp))
    | str j => obtain ⟨t', rfl⟩ := ry; exact eq_str (fin_bl I q dec_str)
    | _ => exact absurd (show false = true from hs) Bool.false_ne_true
  | byt i =>
    obtain ⟨t, rfl⟩ := rx
    cases y with
    | byt j => obtain ⟨t', rfl⟩ := ry; exact PySem.W.eq_bytes (fin_bl I q dec_byt)
    | _ => exact absurd (show false = true from hs) Bool.false_ne_true
  | _ => cases y <;> exact absurd (show false = true from hs) Bool.false_ne_true
theorem op_ne : OpR X (compareOp .NotEq) rNe := by
  intro pins s σ H x y v u Q I rx ry h
  obtain ⟨hs, q⟩ := h
  cases x with
  | non =>
    cases rx
    cases y with
    | non => cases ry; exact PySem.EqNone.ne_none_none (fin_bl I q (by simp))
    | bl j => cases ry; exact PySem.EqNone.ne_none_bool (fin_bl I q (by simp))
    | int j => obtain ⟨t', rfl⟩ := ry; exact PySem.EqNone.ne_none_int (fin_bl I q (by simp))
    | str j => obtain ⟨t', rfl⟩ := ry; exact PySem.EqNone.ne_none_str (fin_bl I q (by simp))
    | _ => exact absurd (show false = true from hs) Bool.false_ne_true
  | bl i =>
    cases rx
    cases y with
    | non => cases ry; exact PySem.EqNone.ne_bool_none (fin_bl I q (by simp))
    | bl j => cases ry; exact ne_bool (fin_bl I q (congrArg not dec_bl))
    | str j => obtain ⟨t', rfl⟩ := ry; exact PySem.EqMixed.ne_bool_str (fin_bl I q (by simp))
    | _ => exact absurd (show false = true from hs) Bool.false_ne_true
  | int i =>
    obtain ⟨t, rfl⟩ := rx
    cases y with
    | non => cases ry; exact PySem.EqNone.ne_int_none (fin_bl I q (by simp))
    | int j => obtain ⟨t', rfl⟩ := ry; exact ne_int (fin_bl I q (congrArg not dec_int))
    | str j => obtain ⟨t', rfl⟩ := ry; exact PySem.EqMixed.ne_int_str (fin_bl I q (by simp))
    | _ => exact absurd (show false = true from hs) Bool.false_ne_true
  | str i =>
    obtain ⟨t, rfl⟩ := rx
    cases y with
    | non => cases ry; exact PySem.EqNone.ne_str_none (fin_bl I q (by simp))
    | bl j => cases ry; exact PySem.EqMixed.ne_str_bool (fin_bl I q (by simp))
    | int j => obtain ⟨t', rfl⟩ := ry; exact PySem.EqMixed.ne_str_int (fin_bl I q (by simp))
    | str j => obtain ⟨t', rfl⟩ := ry; exact ne_str (fin_bl I q (congrArg not dec_str))
    | _ => exact absurd (show false = true from hs) Bool.false_ne_true
  | byt i =>
    obtain ⟨t, rfl⟩ := rx
    cases y with
    | byt j => obtain ⟨t', rfl⟩ := ry; exact PySem.W.ne_bytes (fin_bl I q (congrArg not dec_byt))
    | _ => exact absurd (show false = true from hs) Bool.false_ne_true
  | _ => cases y <;> exact absurd (show false = true from hs) Bool.false_ne_true

theorem op_lt : OpR X (compareOp .Lt) (rI0 fun i j => .bl (decide (i < j))) := opB0 fun _ _ _ _ _ _ _ q => lt_int q
theorem op_gt : OpR X (compareOp .Gt) (rI0 fun i j => .bl (decide (j < i))) := opB0 fun _ _ _ _ _ _ _ q => gt_int q
theorem op_ge : OpR X (compareOp .GtE) (rI0 fun i j => .bl (decide (j ≤ i))) := opB0 fun _ _ _ _ _ _ _ q => ge_int q
/-- is, is not of two objects that are tracked lists or instances -/
def isObj : HO → Bool
  | .lst _ => true
  | .ins _ _ _ => true
  | _ => false
theorem obj_there {pins : List (Addr × Obj)} {s : Shared} {σ : St} {H : Hp} {a : Addr} {o : HO} (I : Inv X pins σ H s) (h : H a = some o) (p : isObj o = true) : ∃ ob, s.heap.get? a = some ob ∧ ob.cls ≠ .type "tuple" := by
  cases o with
  | lst xs =>
    obtain ⟨_, its, n, _, e⟩ : xs.length ≤ sizeLine ∧ ∃ (its : List Value) (n : Nat), Vals xs its ∧ s.heap.get? a = some { cls := .type "list", data := .seq its.toArray n } := I.hok a _ h
    exact ⟨_, e, (by show Value.type "list" ≠ .type "tuple"; decide +kernel)⟩
  | ins C dx fs =>
    have x := I.hok a _ h
    obtain ⟨_, _, _, e, _⟩ := x
    exact ⟨_, e, (by show Value.ref C ≠ .type "tuple"; exact fun z => by cases z)⟩
  | _ => exact absurd (show false = true from p) Bool.false_ne_true
theorem nomark (b : Expr) {op : CmpOp} (h : op ≠ .In := by decide) (h2 : op ≠ .NotIn := by decide) : behindInMarks op b = false := by
  have e1 : (op == CmpOp.In) = false := by cases op <;> first | rfl | exact absurd rfl h
  have e2 : (op == CmpOp.NotIn) = false := by cases op <;> first | rfl | exact absurd rfl h2
  cases b <;> simp [behindInMarks, e1, e2]
/-- a comparison as a value; hm: nomark b, or (for in, not in) by with_unfolding_all rfl -/
theorem pe_cmpR {op : CmpOp} {r : R2} (ho : OpR X (compareOp op) r) (ha : PE X a ta) (hb : PE X b tb) (hm : behindInMarks op b = false) : PE X (.Compare a [op] [b] pos) (tOp r ta tb) := by
  intro pins s σ H Q I h
  exact wpAny_Compare1 (binT ha hb I h fun v u s2 x y H2 I2 rx ry q => ho pins s2 σ H2 x y v u Q I2 rx ry q) hm
/-- a reading of a value as a test -/
def tTest (t : TE) : TT := fun σ H Q => t σ H fun x H' => ∃ k, x = .bl k ∧ Q k H'
theorem pt_cmpR {op : CmpOp} {r : R2} (ho : OpR X (compareOp op) r) (ha : PE X a ta) (hb : PE X b tb) (hm : behindInMarks op b = false) : PT X (.Compare a [op] [b] pos) (tTest (tOp r ta tb)) := by
  intro pins s σ H Q I h
  refine wpAny_isTrue_Compare1 (thn (ha pins s σ H _ I h) fun v s1 ⟨x, H1, I1, r1, q1⟩ => thn (hb pins s1 σ H1 _ I1 q1) fun u s2 ⟨y, H2, I2, r2, q2⟩ =>
    thn (ho pins s2 σ H2 x y v u _ I2 r1 r2 q2) fun c s3 ⟨z, H3, I3, r3, k, e, q3⟩ => ?_) hm
  subst e
  cases r3
  exact wpAny_truthy_bool ⟨H3, I3, q3⟩
/-! ### truth -/
theorem line63 : (sizeLine : Nat) < 2 ^ 63 := by rw [sizeLine_eq]; decide
/-! ### strs and bytes -/
/-! ### scalar builtins, by CallR -/
theorem vals1 {x : V} {us : List Value} (r : Vals [x] us) : ∃ u, us = [u] ∧ RelV x u := by
  cases r with
  | cons r1 r2 => cases r2; exact ⟨_, rfl, r1⟩
theorem vals2 {x y : V} {us : List Value} (r : Vals [x, y] us) : ∃ u w', us = [u, w'] ∧ RelV x u ∧ RelV y w' := by
  cases r with
  | cons r1 r2 =>
    cases r2 with
    | cons r3 r4 => cases r4; exact ⟨_, _, rfl, r1, r3⟩
end
end L2

namespace L2
open PySem PySem.Spec PyProof.Rows

/-! ### an instance, its attributes a map -/
section
variable {prog : Program} {w : World} {A : Around} {E : Value → Shared → Prop} {s : Shared} {K : PySem.W.Frag} {x dx C f : Addr} {mA : Str → Option Value} {name : Str} {v : Value}

end

/-! ### the attributes as a list of pairs -/
theorem RelO.some_of {v : V} {o : Option Value} (r : RelO (some v) o) : ∃ u, o = some u ∧ RelV v u := by
  cases o with
  | none => exact (show False from r).elim
  | some u => exact ⟨u, rfl, r⟩
section
variable {P : Program} {w : World} {H H' : Hp} {h h' : Heap} {a C dx : Addr} {fs fs' : List (Str × V)}
end

/-! ### what of the text a class must have -/
section
variable {X : Cx} {pins : List (Addr × Obj)} {σ : St} {H : Hp} {s : Shared} {a C dx : Addr} {fs : List (Str × V)} {f : Str} {v : V} {A : Around} {E : Value → Shared → Prop}

end

/-! ### readings and rules -/
section
variable {X : Cx} {o e value : Expr} {f : Str} {pos pos' tpos : Pos} {ta tv : TE}
end

/-! ### isinstance -/
section
variable {X : Cx} {pins : List (Addr × Obj)} {σ : St} {H : Hp} {s : Shared} {A : Around} {E : Value → Shared → Prop} {Q : Value → Shared → Prop} {c : Value} {b : Bool}
end
end L2

namespace L2
open PySem PySem.Spec PyProof.Rows

/-! ### room -/
structure Room (k : Nat) (A : Around) : Prop where
  hd : A.handled = none
  dp : A.depth + 3 * k + 5 < recursionLimit
  un : A.units + 16 * k + 200 < cLine
theorem Room.mono {j k : Nat} {A : Around} (r : Room k A) (h : j ≤ k) : Room j A := ⟨r.hd, by have := r.dp; (first | lia | omega), by have := r.un; (first | lia | omega)⟩
theorem Room.deeper {k : Nat} {A : Around} (r : Room (k + 1) A) (env : Env) : Room k (A.deeper env) :=
  ⟨r.hd, by have := r.dp; show A.depth + 1 + 3 * k + 5 < _; (first | lia | omega), by have := r.un; show A.units + 3 + 16 * k + 200 < _; (first | lia | omega)⟩
theorem Room.depth {k : Nat} {A : Around} (r : Room k A) : A.depth < recursionLimit := by have := r.dp; (first | lia | omega)
theorem Room.units {k : Nat} {A : Around} (r : Room k A) : A.units + 64 < cLine := by have := r.un; (first | lia | omega)
/-! ### argument lists and displays -/
def tNil : TA := fun _ H Q => Q [] H
def tCons (ta : TE) (tr : TA) : TA := fun σ H Q => ta σ H fun x H1 => tr σ H1 fun xs H2 => Q (x :: xs) H2
section
variable {X : Cx} {e : Expr} {es : List Expr} {te : TE} {t : TA} {pos : Pos}
theorem pa_nil : PA X [] tNil := fun _ _ _ _ H Q I h => Calls.spliced_nil ⟨[], H, I, .nil, h⟩
theorem pa_cons (ha : PE X e te) (hr : PA X es t) (hs : starEach (e :: es) X.env = (false, eval e X.env) :: starEach es X.env := by rfl) : PA X (e :: es) (tCons te t) := by
  intro pos pins s σ H Q I h
  rw [hs]
  show wpAny _ _ (spliced ((false, eval e X.env) :: backTo pos (starEach es X.env))) _ _ s
  refine Calls.spliced_cons (thn (ha pins s σ H _ I h) fun u s1 ⟨x, H1, I1, r1, q1⟩ => ?_)
  exact thn (hr pos pins s1 σ H1 _ I1 q1) fun us s2 ⟨xs, H2, I2, r2, q2⟩ => ⟨x :: xs, H2, I2, .cons r1 r2, q2⟩

/-- a tuple, a list of written items -/
def tTup (t : TA) : TE := fun σ H Q => t σ H fun xs H1 => xs.length ≤ sizeLine ∧ ∀ p, H1 p = none → Q (.ref p) (upd H1 p (.tup xs))
def tLst (t : TA) : TE := fun σ H Q => t σ H fun xs H1 => xs.length ≤ sizeLine ∧ ∀ p, H1 p = none → Q (.ref p) (upd H1 p (.lst xs))
theorem pe_tup {x1} (h : PA X es t) : PE X (.Tuple es x1 pos) (tTup t) := by
  intro pins s σ H Q I hq
  refine wpAny_Tuple_spliced (thn (h pos pins s σ H _ I hq) fun us s1 ⟨xs, H1, I1, r, z, q⟩ => ⟨by rw [← r.length]; exact z, ?_⟩)
  have hf : H1 s1.heap.objs.size = none := I1.hok.fresh (Nat.le_refl _)
  refine ⟨.ref s1.heap.objs.size, upd H1 s1.heap.objs.size (.tup xs), I1.laid (t' := s1.toks) (fun b u e => Heap.get?_push_of_some _ e) (Nat.le_refl _) ?_, rfl, q _ hf⟩
  exact ⟨z, us, r, ⟨_, Heap.get?_push_size _ rfl, rfl, _, rfl⟩⟩
theorem pe_lst (h : PA X es t) : PE X (.List es pos) (tLst t) := by
  intro pins s σ H Q I hq
  refine wpAny_List_spliced (thn (h pos pins s σ H _ I hq) fun us s1 ⟨xs, H1, I1, r, z, q⟩ => ⟨by rw [← r.length]; exact z, ?_⟩)
  have hf : H1 s1.heap.objs.size = none := I1.hok.fresh (Nat.le_refl _)
  refine ⟨.ref s1.heap.objs.size, upd H1 s1.heap.objs.size (.lst xs), I1.laid (t' := s1.toks) (fun b u e => Heap.get?_push_of_some _ e) (Nat.le_refl _) ?_, rfl, q _ hf⟩
  exact ⟨z, us, 0, r, Heap.get?_push_size _ rfl⟩
end

/-! ### what a def promises -/
/-- a def's promise: the bound arguments in the parameters' order, the heap, the wanted end, the wanted exception -/
abbrev Sp := List V → Hp → VK → XK → Prop
/-- how an exception lies behind a call (file 08 gives it): the callers' frames, abstract heap and state ahead of the call, the wish, the exception, the state -/
abbrev CXT := List Env → Hp → Shared → XK → Value → Shared → Prop

/-- the state at a call -/
structure Env0 (P : Program) (w : World) (K : PySem.W.Frag) (mg : Str → Option Value) (base : Heap) (A : Around) (outer : List Env) (s : Shared) (H : Hp) : Prop where
  frames : A.frames = some outer
  mod : Mod K mg base
  bs : ∀ b o, base.get? b = some o → s.heap.get? b = some o ∧ H b = none
  bsz : base.objs.size ≤ s.heap.objs.size
  funs : s.heap.FunFrames base outer
  frf : ∀ b ∈ frs outer, H b = none
  hok : HOk P w H s.heap
  bare : AllBare s.gens
/-- a call's end -/
def CE (outer : List Env) (P : Program) (w : World) (H : Hp) (s : Shared) (Q : VK) (u : Value) (s' : Shared) : Prop :=
  ∃ v H', s'.os = s.os ∧ AllBare s'.gens ∧ Un (frs outer) [] H H' s.heap s'.heap ∧ HOk P w H' s'.heap ∧ RelV v u ∧ Q v H'
def CR (CX : CXT) (outer : List Env) (P : Program) (w : World) (H : Hp) (s : Shared) (Q : VK) (E : XK) (r : Result) (s' : Shared) : Prop :=
  match r with
  | .ok (.ret u) => CE outer P w H s Q u s'
  | .ok _ => False
  | .error e => CX outer H s E e s'
structure FnOk (P : Program) (w : World) (K : PySem.W.Frag) (mg : Str → Option Value) (base : Heap) (CX : CXT) (k : Nat) (f : Addr) (fd : FuncData) (ps : List Str) (sp : Sp) : Prop where
  len : ∀ vs H Q E, sp vs H Q E → vs.length = ps.length
  run : ∀ (A : Around) (outer : List Env) (s : Shared) (H : Hp) (args : Args) (us : List Value) (vs : List V) (Q : VK) (E : XK), Room k A → Env0 P w K mg base A outer s H → BindsTo s fd args (ps.zip us) → Vals vs us → sp vs H Q E →
    codeAny (model P w) A (.call (.ref f) args) (CR CX outer P w H s Q E) s
section
variable {X : Cx} {pins : List (Addr × Obj)} {σ : St} {H : Hp} {s s' : Shared}
/-- from a body: what a callee wants -/
theorem Inv.env0 (I : Inv X pins σ H s) : Env0 X.prog X.w X.K X.mg X.base X.A X.stack s H :=
  ⟨I.ok.frames, I.ok.mod, I.bs, Nat.le_trans I.ok.bsz I.sz, I.stack, I.stkFree, I.hok, I.bare⟩
/-- behind a call -/
theorem Inv.after {Q : VK} {u : Value} (I : Inv X pins σ H s) (h : CE X.stack X.prog X.w H s Q u s') : EP X pins σ Q u s' := by
  obtain ⟨v, H', os, bare, un, hok, r, q⟩ := h
  obtain ⟨hh, g, d, t, os'⟩ := s'
  obtain rfl : os' = s.os := os
  exact ⟨v, H', I.call (h' := hh) (g' := g) (d' := d) (t' := t) (ch := []) un hok bare (fun b z => absurd z (by simp)), r, q⟩
end

/-! ### calls -/
/-- f(..): the written arguments, then the defaults dvs; E: what is wanted of an exception -/
def tCall (sp : Sp) (dvs : List V) (E : XK) (t : TA) : TE := fun σ H Q => t σ H fun vs H1 => sp (vs ++ dvs) H1 Q E
/-- how the parameters are bound: us the positional arguments, kw the keywords' values by name, ds the defaults that fill up -/
def Binds (K : PySem.W.Frag) (fd : FuncData) (ps : List Str) (ds : List Value) : Prop :=
  ∀ (s : Shared) (us : List Value), K.In s.heap → (us ++ ds).length = ps.length → BindsTo s fd ⟨us, []⟩ (ps.zip (us ++ ds))
/-- every parameter is given -/
theorem Binds.all {K : PySem.W.Frag} {fd : FuncData} {ps : List Str} (h : ∀ us : List Value, us.length = ps.length → bindArgs fd ⟨us, []⟩ = pure (ps.zip us)) : Binds K fd ps [] := fun s us _ hl => by
  rw [List.append_nil] at hl ⊢
  exact .of_eq (h us hl)

/-- an exception of a callee reaches what this body wants of exceptions -/
def Passes (CX : CXT) (X : Cx) (E : XK) : Prop := ∀ (pins : List (Addr × Obj)) (σ : St) (H : Hp) (s : Shared) (e : Value) (s' : Shared), Inv X pins σ H s → CX X.stack H s E e s' → X.xe e s'

section
variable {X : Cx} {CX : CXT} {k : Nat} {f C : Addr} {fd : FuncData} {ps : List Str} {sp : Sp} {dvs : List V} {ds : List Value} {E : XK} {x m : Str} {p pos apos : Pos} {e o : Expr} {es : List Expr} {ta : TE} {t : TA}

/-- the callee runs -/
theorem run_fn {pins : List (Addr × Obj)} {σ : St} {H : Hp} {s : Shared} {Q : VK} {us : List Value} {vs : List V} (F : FnOk X.prog X.w X.K X.mg X.base CX k f fd ps sp) (hr : Room k X.A) (hb : Binds X.K fd ps ds) (hd : Vals dvs ds) (hx : Passes CX X E)
    (I : Inv X pins σ H s) (r : Vals vs us) (h : sp (vs ++ dvs) H Q E) : wpAny (model X.prog X.w) X.A (call (.ref f) us) (EP X pins σ Q) X.xe s := by
  have r2 : Vals (vs ++ dvs) (us ++ ds) := r.append hd
  have hl : (us ++ ds).length = ps.length := by rw [← r2.length]; exact F.len _ _ _ _ h
  refine wpAny_call (codeAny_mono (F.run X.A X.stack s H ⟨us, []⟩ (us ++ ds) (vs ++ dvs) Q E hr I.env0 (hb s us I.kIn hl) r2 h) fun r s' hq => ?_)
  cases r with
  | error e => exact hx pins σ H s e s' I hq
  | ok fl =>
    cases fl with
    | ret u => exact I.after hq
    | next => exact False.elim hq
    | brk => exact False.elim hq
    | cont => exact False.elim hq

theorem pe_call (F : FnOk X.prog X.w X.K X.mg X.base CX k f fd ps sp) (hr : Room k X.A) (hg : Gl X x) (hm : X.mg x = some (.ref f)) (hk : PySem.W.keepIn X.K (.ref f) = true) (hb : Binds X.K fd ps ds) (hd : Vals dvs ds) (hx : Passes CX X E)
    (ha : PA X (e :: es) t) (hdb : (x == ("__debug__" : Str)) = false := by decide) (he : starEach (e :: es) X.env = (false, eval e X.env) :: starEach es X.env := by rfl) (hpl : (backTo pos (starEach es X.env)).any (·.1) = false := by rfl) :
    PE X (.Call (.Name x p) (e :: es) [] pos) (tCall sp dvs E t) := by
  intro pins s σ H Q I h
  refine wpAny_Call_Name_kw (ld_glob I hg hm ?_ hdb)
  refine PySem.W.callWith_K (h₀ := X.base) I.ok.mod.kin hk (thn (ha pos pins s σ H _ I h) fun us s1 ⟨vs, H1, I1, r, q⟩ => ⟨I1.kIn, ?_⟩) he hpl
  exact run_fn F hr hb hd hx I1 r q
end

/-! ### keywords -/
section
variable {X : Cx} {CX : CXT} {k : Nat} {f C : Addr} {fd : FuncData} {ps ks : List Str} {sp : Sp} {E : XK} {x m : Str} {p pos apos kpos : Pos} {e o : Expr} {es : List Expr} {kws : List Keyword} {te ta : TE} {t tk : TA} {nm : Option Str}
variable {g : List Value → List Value → List Value} {gV : List V → List V → List V}
end

/-! ### a def's body keeps its promise -/
/-- names: the parameters first -/
structure FnScope (N P : List Str) (sc : Scope) : Prop where
  kind : sc.kind = .function
  co : sc.isCoroutine = false
  gen : sc.isGenerator = false
  nd : N.Nodup
  pre : N.take P.length = P
  par : ∀ x ∈ P, sc.names.lookup x = some .local ∨ sc.names.lookup x = some .cell
  nofree : ∀ y ∈ sc.names, y.2 ≠ .free

theorem bindL_out {kindOf : Str → Option NameKind} {x : Str} : ∀ {binds : List (Str × Value)} {m : Str → Option Value}, (∀ v, (x, v) ∉ binds) → bindL kindOf binds m x = m x
  | [], _, _ => rfl
  | (n, v) :: r, m, h => by
    unfold bindL
    rw [bindL_out fun w hw => h w (List.mem_cons_of_mem _ hw)]
    split
    · have : x ≠ n := by rintro rfl; exact h v List.mem_cons_self
      simp [this]
    · rfl
theorem bindC_out {kindOf : Str → Option NameKind} {x : Str} : ∀ {binds : List (Str × Value)} {m : Str → Option Value}, (∀ v, (x, v) ∉ binds) → bindC kindOf binds m x = m x
  | [], _, _ => rfl
  | (n, v) :: r, m, h => by
    unfold bindC
    rw [bindC_out fun w hw => h w (List.mem_cons_of_mem _ hw)]
    split
    · rfl
    · have : x ≠ n := by rintro rfl; exact h v List.mem_cons_self
      simp [this]
theorem bindL_get {kindOf : Str → Option NameKind} {x : Str} {v : Value} : ∀ {P : List Str} {vs : List Value} {i : Nat} {m : Str → Option Value}, P.Nodup → P[i]? = some x → vs[i]? = some v → kindOf x = some .local →
    bindL kindOf (P.zip vs) m x = some v
  | [], _, _, _, _, h, _, _ => by simp at h
  | _ :: _, [], _, _, _, _, h, _ => by simp at h
  | p :: P, w :: vs, 0, m, nd, h1, h2, hk => by
    simp at h1 h2; subst h1; subst h2
    show bindL kindOf ((p, w) :: P.zip vs) m p = _
    unfold bindL
    rw [bindL_out fun v hv => (List.nodup_cons.mp nd).1 (List.of_mem_zip hv).1, if_pos hk]
    simp
  | p :: P, w :: vs, i + 1, m, nd, h1, h2, hk => by
    show bindL kindOf ((p, w) :: P.zip vs) m x = _
    unfold bindL
    exact bindL_get (i := i) (List.nodup_cons.mp nd).2 (by simpa using h1) (by simpa using h2) hk
theorem bindC_get {kindOf : Str → Option NameKind} {x : Str} {v : Value} : ∀ {P : List Str} {vs : List Value} {i : Nat} {m : Str → Option Value}, P.Nodup → P[i]? = some x → vs[i]? = some v → kindOf x ≠ some .local →
    bindC kindOf (P.zip vs) m x = some v
  | [], _, _, _, _, h, _, _ => by simp at h
  | _ :: _, [], _, _, _, _, h, _ => by simp at h
  | p :: P, w :: vs, 0, m, nd, h1, h2, hk => by
    simp at h1 h2; subst h1; subst h2
    show bindC kindOf ((p, w) :: P.zip vs) m p = _
    unfold bindC
    rw [bindC_out fun v hv => (List.nodup_cons.mp nd).1 (List.of_mem_zip hv).1, if_neg hk]
    simp
  | p :: P, w :: vs, i + 1, m, nd, h1, h2, hk => by
    show bindC kindOf ((p, w) :: P.zip vs) m x = _
    unfold bindC
    exact bindC_get (i := i) (List.nodup_cons.mp nd).2 (by simpa using h1) (by simpa using h2) hk

/-- the names' values at the entry -/
def start (N : List Str) (vs : List V) : St := vs.map some ++ List.replicate (N.length - vs.length) none

/-- the context of a def's body, at its entry; an exception leaves the frame, then lies as CX says -/
def cxOf (CX : CXT) (P : Program) (w : World) (K : PySem.W.Frag) (mg : Str → Option Value) (base : Heap) (N : List Str) (qual : Str) (scope : Scope) (f : Addr) (cd : Value) (A : Around) (outer : List Env) (s : Shared) (H : Hp) (E : XK) : Cx where
  prog := P
  w := w
  K := K
  mg := mg
  base := base
  A := A.deeper (envOfC qual scope s.heap.objs.size f cd)
  N := N
  s₀ := s
  H₀ := H
  env := envOfC qual scope s.heap.objs.size f cd
  outer := outer
  stack := envOfC qual scope s.heap.objs.size f cd :: outer
  ex := []
  calm := true
  fn := fun _ => true
  pn := []
  xe := fun e s' => wpAny (model P w) (A.deeper (envOfC qual scope s.heap.objs.size f cd)) (leaving (envOfC qual scope s.heap.objs.size f cd) e) (fun _ s'' => CX outer H s E e s'') (fun e' s'' => CX outer H s E e' s'') s'

theorem cell_has {sc : Scope} {n : Nat} {x : Str} (h : sc.names.lookup x = some .cell) : ∃ c, (cellsFrom n sc.names []).lookup x = some c := by
  have q := PySem.W.cellsFrom_some sc.names n [] (.inl h)
  exact Option.isSome_iff_exists.mp q

theorem inv_start {CX : CXT} {P : Program} {w : World} {K : PySem.W.Frag} {mg : Str → Option Value} {base : Heap} {N ps : List Str} {qual : Str} {scope : Scope} {f : Addr} {cd : Value} {A : Around} {outer : List Env} {s s1 : Shared} {H : Hp} {E : XK} {us : List Value} {vs : List V}
    (S : FnScope N ps scope) (hd : A.handled = none) (e0 : Env0 P w K mg base A outer s H) (hl : vs.length = ps.length) (r : Vals vs us)
    (x : InCallC s s.heap.objs.size (bindL (envOfC qual scope s.heap.objs.size f cd).kindOf (ps.zip us) fun _ => none) (cellsFrom (s.heap.objs.size + 1) scope.names []) (bindC (envOfC qual scope s.heap.objs.size f cd).kindOf (ps.zip us) fun _ => none) s1) :
    Inv (cxOf CX P w K mg base N qual scope f cd A outer s H E) [] (start N vs) H s1 := by
  have hpl : ps.length ≤ N.length := by have := congrArg List.length S.pre; rw [List.length_take] at this; (first | lia | omega)
  obtain ⟨h1, tk, rfl, hk⟩ := x.done
  have noA : ∀ b : Addr, b ∉ (cxOf CX P w K mg base N qual scope f cd A outer s H E).ex := fun b z => absurd (show b ∈ ([] : List Addr) from z) (by simp)
  refine ⟨⟨e0.mod, S.kind, rfl, rfl, Nat.le_refl _, fun y z c h1 h2 => ?_, fun y hy => ?_, fun y c _ h => ?_, fun _ => hd, Around.frames_deeper e0.frames, .inr ⟨rfl, rfl⟩, fun b z => absurd z (noA b), e0.bs, e0.bsz, fun b _ _ => noA b, fun b z => absurd z (noA b), e0.funs, e0.frf⟩,
    rfl, e0.bare, Un.kept hk, ⟨_, x.toInCall.ns, fun i y v h1 h2 h3 => ?_⟩, fun y c h => ⟨_, x.cell y c h⟩, e0.hok.fresh (Nat.le_refl _), fun y c h => ?_, fun p hp => absurd (show p ∈ ([] : List (Addr × Obj)) from hp) (by simp), e0.hok.kept hk, ?_⟩
  · exact name_of_addr x.apart (PySem.mem_of_lookup h1) (PySem.mem_of_lookup h2)
  · have hy : scope.names.lookup y = some .cell ∨ scope.names.lookup y = some .free := hy
    rcases hy with hy | hy
    · exact cell_has hy
    · exact absurd rfl (S.nofree _ (PySem.mem_of_lookup hy))
  · exact Nat.le_of_lt (x.above y c (PySem.mem_of_lookup h))
  · have hi : i < vs.length := by
      unfold start at h2
      by_cases hi : i < vs.length
      · exact hi
      · rw [List.getElem?_append_right (by simpa using hi)] at h2
        rw [List.getElem?_replicate] at h2
        split at h2 <;> cases h2
    have ha : vs[i]? = some v := by
      unfold start at h2
      rw [List.getElem?_append_left (by simpa using hi), List.getElem?_map] at h2
      cases e : vs[i]? with
      | none => rw [e] at h2; cases h2
      | some a => rw [e] at h2; cases h2; rfl
    obtain ⟨u, hu, rv⟩ := r.get ha
    have hp : ps[i]? = some y := by
      rw [← S.pre, List.getElem?_take_of_lt (by (first | lia | omega))]; exact h1
    have ndP : ps.Nodup := by rw [← S.pre]; exact S.nd.sublist (List.take_sublist _ _)
    refine ⟨u, rv, ?_⟩
    rcases S.par y (List.mem_of_getElem? hp) with k | k
    · exact .inl ⟨k, bindL_get ndP hp hu k⟩
    · obtain ⟨c, e⟩ := cell_has (n := s.heap.objs.size + 1) k
      refine .inr ⟨.inl k, c, e, ?_⟩
      have q := x.cell y c e
      rw [bindC_get ndP hp hu (by show scope.names.lookup y ≠ _; rw [k]; decide)] at q
      exact q
  · exact e0.hok.fresh (Nat.le_of_lt (x.above y c (PySem.mem_of_lookup h)))
  · unfold start
    show _ = N.length
    rw [List.length_append, List.length_map, List.length_replicate]
    (first | lia | omega)

/-- THE RULE: a def (or a method) of the text, by its body. The body's reading t is chosen for each entry; it is run at the parameters' values -/
theorem fn_of {CX : CXT} {P : Program} {w : World} {K : PySem.W.Frag} {mg : Str → Option Value} {base : Heap} {k : Nat} {f : Addr} {name qual : Str} {params : Arguments} {body : List Stmt} {scope : Scope} {dV kV doc pm cdv ct oc : Value} {an od : Option Addr}
    {osl : Array (Option Value)} {N ps : List Str} {sp : Sp} (lk : K.lookup f = some ⟨oc, od, .func (PySem.W.fnOf name qual params body scope dV kV doc pm an cdv ct), osl⟩) (hcd : PySem.W.codeIn K cdv qual = true) (S : FnScope N ps scope)
    (len : ∀ vs H Q E, sp vs H Q E → vs.length = ps.length)
    (hbody : ∀ (A : Around) (outer : List Env) (s : Shared) (H : Hp) (vs : List V) (Q : VK) (E : XK), Room k (A.deeper (envOfC qual scope s.heap.objs.size f cdv)) → sp vs H Q E →
      ∃ t, PSs (cxOf CX P w K mg base N qual scope f cdv A outer s H E) body t ∧ t { nx := fun _ H' => Q .non H', rt := Q } (start N vs) H) :
    FnOk P w K mg base CX (k + 1) f (PySem.W.fnOf name qual params body scope dV kV doc pm an cdv ct) ps sp := by
  refine ⟨len, fun A outer s H args us vs Q E hr e0 hb r hsp => ?_⟩
  have hl := len _ _ _ _ hsp
  have KX : K.In s.heap := e0.mod.kin.keeps fun b o e => (e0.bs b o e).1
  have lim : s.heap.NoLimit := e0.mod.nolimit.keeps fun b o e => (e0.bs b o e).1
  have hkind : ∀ y ∈ ps.zip us, scope.names.lookup y.1 = some .local ∨ (scope.names.lookup y.1 = some .cell ∧ ((cellsFrom (s.heap.objs.size + 1) scope.names []).lookup y.1).isSome = true) := fun ⟨n, v⟩ hy => by
    rcases S.par n (List.of_mem_zip hy).1 with q | q
    · exact .inl q
    · exact .inr ⟨q, PySem.W.cellsFrom_some _ _ _ (.inl q)⟩
  refine codeAny_call_function hr.depth (KX _ _ lk) rfl S.co S.gen rfl (PySem.W.codeRec_of KX hcd) (hb _ _ _ _ ?_)
  refine wpAny_newFunctionEnv_cells S.kind hkind fun env he s1 x => ?_
  subst he
  refine ⟨lim.keeps x.toInCall.keep, codeAny_func ?_⟩
  obtain ⟨t, ht, hq⟩ := hbody A outer s H vs Q E (hr.deeper _) hsp
  have I : Inv (cxOf CX P w K mg base N qual scope f cdv A outer s H E) [] (start N vs) H s1 := inv_start S hr.hd e0 hl r x
  refine wpAny_mono (ht [] s1 (start N vs) H _ I hq) (fun fl s' hs => ?_) fun e s' hs => hs
  have fin : ∀ {σ' : St} {H' : Hp} {v : V} {u : Value}, Inv (cxOf CX P w K mg base N qual scope f cdv A outer s H E) [] σ' H' s' → RelV v u → Q v H' → CE outer P w H s Q u s' :=
    fun {σ' H' v u} J rv q => ⟨v, H', J.os, J.bare, J.base, J.hok, rv, q⟩
  cases fl with
  | ret u =>
    obtain ⟨v, σ', H', J, rv, q⟩ := hs
    exact fin J rv q
  | next =>
    obtain ⟨σ', H', J, q⟩ := hs
    exact fin (v := V.non) (u := Value.none) J rfl q
  | brk =>
    obtain ⟨_, _, _, q⟩ := hs
    exact False.elim q
  | cont =>
    obtain ⟨_, _, _, q⟩ := hs
    exact False.elim q
end L2

namespace L2
open PySem PySem.Spec PyProof.Rows
section
variable {X : Cx} {x : Str} {p pos : Pos} {e : Expr} {es : List Expr} {t : TA} {id T : String} {r : List V → Hp → VK → Prop}

def tCB (r : List V → Hp → VK → Prop) (t : TA) : TE := fun σ H Q => t σ H fun vs H1 => r vs H1 Q
/-- f(e, ..), f a built-in function -/
theorem pe_callB (hc : CallR X (.builtin id) r) (hg : Gl X x) (hm : X.mg x = none) (hv : bootBuiltins x = some (.builtin id)) (ha : PA X (e :: es) t) (hn : x ≠ "__name__" := by decide) (hdb : (x == ("__debug__" : Str)) = false := by decide)
    (he : starEach (e :: es) X.env = (false, eval e X.env) :: starEach es X.env := by rfl) (hpl : (backTo pos (starEach es X.env)).any (·.1) = false := by rfl) : PE X (.Call (.Name x p) (e :: es) [] pos) (tCB r t) := by
  intro pins s σ H Q I h
  refine wpAny_Call_Name_kw (ld_blt I hg hm hv ?_ hn hdb)
  exact PyProof.Rows.callWith_builtin1 (thn (ha pos pins s σ H _ I h) fun us s1 ⟨vs, H1, I1, r1, q1⟩ => hc pins s1 σ H1 vs us Q I1 r1 q1) he hpl
/-- T(e, ..), T a built-in type -/
theorem pe_callTy (hc : CallR X (.type T) r) (hg : Gl X x) (hm : X.mg x = none) (hv : bootBuiltins x = some (.type T)) (ha : PA X (e :: es) t) (hn : x ≠ "__name__" := by decide) (hdb : (x == ("__debug__" : Str)) = false := by decide)
    (he : starEach (e :: es) X.env = (false, eval e X.env) :: starEach es X.env := by rfl) (hpl : (backTo pos (starEach es X.env)).any (·.1) = false := by rfl) : PE X (.Call (.Name x p) (e :: es) [] pos) (tCB r t) := by
  intro pins s σ H Q I h
  refine wpAny_Call_Name_kw (ld_blt I hg hm hv ?_ hn hdb)
  exact PyProof.Rows.callWith_type1 (thn (ha pos pins s σ H _ I h) fun us s1 ⟨vs, H1, I1, r1, q1⟩ => hc pins s1 σ H1 vs us Q I1 r1 q1) he hpl
end
end L2

namespace HT
open PySem PyProof.Rows

section
open PySem.SeqAt
open PySem.AutoSeq1 (wpAny_loadPart')
open PySem.MeetsSeq PySem.MeetsSeq2 PySem.MeetsSeq3

end

section
variable {prog : Program} {w : World} {A : Around} {E : Value → Shared → Prop} {s : Shared}

/-! ### t[a:b], not the whole -/
/-- a slice's bound as a place among n (d where it is left out) -/
def sIx (n d : Nat) : Option Int → Nat
  | none => d
  | some v => if v < 0 then (v + (n : Int)).toNat else min v.toNat n
theorem sIx_none (n d : Nat) : sIx n d none = d := rfl
theorem sIx_nat (n d k : Nat) : sIx n d (some (k : Int)) = min k n := by
  show (if (k : Int) < 0 then ((k : Int) + (n : Int)).toNat else min (k : Int).toNat n) = min k n
  rw [if_neg (by (first | lia | omega)), Int.toNat_natCast]
end
end HT

namespace L2
open PySem PySem.Spec PyProof.Rows

/-! ### the parts of a slice -/
abbrev TO := St → Hp → (Option Int → Hp → Prop) → Prop
/-- a slice's part (left out, or an int) -/
def PO (X : Cx) (e : Option Expr) (t : TO) : Prop :=
  ∀ (pins : List (Addr × Obj)) (s : Shared) (σ : St) (H : Hp) (Q : Option Int → Hp → Prop), Inv X pins σ H s → t σ H Q →
    wpAny (model X.prog X.w) X.A (evalPart e X.env) (fun u s' => ∃ o H', Inv X pins σ H' s' ∧ IsPart u o ∧ Q o H') X.xe s
def tNoPart : TO := fun _ H Q => Q none H
def tPart (t : TE) : TO := fun σ H Q => t σ H fun x H1 => ∃ i, x = .int i ∧ Q (some i) H1

theorem intsAre_of {ns : List Int} : ∀ {us : List Value}, Vals (ns.map V.int) us → IntsAre us ns := by
  induction ns with
  | nil => intro us r; rw [List.map_nil] at r; cases r; exact .nil
  | cons n ns ih =>
    intro us r
    rw [List.map_cons] at r
    cases r with
    | cons r1 r2 =>
      obtain ⟨t, e⟩ := r1
      subst e
      exact .cons n t (ih r2)

section
variable {X : Cx} {e : Expr} {te : TE} {lo hi : Option Expr} {tl th : TO} {pos p2 : Pos}

theorem po_none : PO X none tNoPart := by
  intro pins s σ H Q I h
  rw [evalPart_none]
  exact wpAny_pure ⟨none, H, I, .none, h⟩
theorem po_some (h : PE X e te) : PO X (some e) (tPart te) := by
  intro pins s σ H Q I hw
  rw [evalPart_some]
  refine thn (h pins s σ H _ I hw) fun u s1 ⟨x, H1, I1, r1, q1⟩ => ?_
  obtain ⟨i, rfl, q⟩ := q1
  obtain ⟨t, rfl⟩ := r1
  exact ⟨some i, H1, I1, .int i t, q⟩

/-- what a slice of a value is, by values: the slice object stands at sl -/
def SlR (X : Cx) (r : V → Option Int → Option Int → Hp → VK → Prop) : Prop :=
  ∀ (pins : List (Addr × Obj)) (s : Shared) (σ : St) (H : Hp) (x : V) (v vl vu : Value) (lo hi : Option Int) (sl : Addr) (Q : VK), Inv X pins σ H s → RelV x v → s.heap.IsSliceOf sl vl vu .none → IsPart vl lo → IsPart vu hi → r x lo hi H Q →
    ∃ T id, typeLookup (.type T) "__getitem__" = pure (some (.builtin id)) ∧ s.TypeIs v T ∧ wpAny (model X.prog X.w) X.A (getItem v (.ref sl)) (EP X pins σ Q) X.xe s
def tSl (r : V → Option Int → Option Int → Hp → VK → Prop) (te : TE) (tl th : TO) : TE := fun σ H Q => te σ H fun x H1 => tl σ H1 fun l H2 => th σ H2 fun u H3 => r x l u H3 Q
/-- a[lo:hi], any a -/
theorem pe_slice {r : V → Option Int → Option Int → Hp → VK → Prop} (hr : SlR X r) (he : PE X e te) (hl : PO X lo tl) (hu : PO X hi th) : PE X (.Subscript e (.Slice lo hi none p2) pos) (tSl r te tl th) := by
  intro pins s σ H Q I h
  refine Subscript_ (thn (he pins s σ H _ I h) fun v s1 ⟨x, H1, I1, r1, q1⟩ => ?_)
  refine wpAny_Slice (thn (hl pins s1 σ H1 _ I1 q1) fun vl s2 ⟨l, H2, I2, pl, q2⟩ => thn (hu pins s2 σ H2 _ I2 q2) fun vu s3 ⟨u, H3, I3, pu, q3⟩ => ?_)
  rw [evalPart_none]
  refine wpAny_pure ?_
  have I4 : Inv X pins σ H3 { s3 with heap := s3.heap.push { cls := .type "slice", data := .fields #[vl, vu, .none] } } := I3.kept (t' := s3.toks) fun b ob q => Heap.get?_push_of_some _ q
  obtain ⟨T, id, hT, ht, hg⟩ := hr pins { s3 with heap := s3.heap.push { cls := .type "slice", data := .fields #[vl, vu, .none] } } σ H3 x v vl vu l u s3.heap.objs.size Q I4 r1 (Heap.IsSliceOf.new ..) pl pu q3
  show wpAny (model X.prog X.w) X.A (subscriptTail e (.Slice lo hi none p2) v (.ref s3.heap.objs.size)) (EP X pins σ Q) X.xe { s3 with heap := s3.heap.push { cls := .type "slice", data := .fields #[vl, vu, .none] } }
  exact tail_any (ops := [.ref s3.heap.objs.size, v]) ht hT hg (by with_unfolding_all rfl)

/-- the items of xs[lo:hi] -/
def cutV (xs : List V) (lo hi : Option Int) : List V := (xs.drop (HT.sIx xs.length 0 lo)).take (HT.sIx xs.length xs.length hi - HT.sIx xs.length 0 lo)
theorem cutV_length (xs : List V) (lo hi : Option Int) : (cutV xs lo hi).length ≤ xs.length := by
  unfold cutV
  rw [List.length_take, List.length_drop]
  (first | lia | omega)
/-! ### t < u, t + u -/
end
end L2

namespace L2
open PySem PySem.Spec PyProof.Rows

/-! ### places -/
/-- the place that an index of any sign means -/
def ixN (n : Nat) (i : Int) : Option Nat := if 0 ≤ i then (if i < n then some i.toNat else none) else if -(n : Int) ≤ i then some (i + n).toNat else none
def atI {α : Type} (xs : List α) (i : Int) : Option α := (ixN xs.length i).bind fun j => xs[j]?
theorem ixN_seq {n : Nat} {i : Int} {j : Nat} (h : ixN n i = some j) : seqIndex? i n = some j ∧ j < n ∧ -(n : Int) ≤ i ∧ i < n := by
  unfold ixN at h
  by_cases h0 : 0 ≤ i
  · rw [if_pos h0] at h
    by_cases h1 : i < n
    · rw [if_pos h1] at h
      have e : i.toNat = j := Option.some.inj h
      exact ⟨by rw [seqIndex_of h0 h1, e], by (first | lia | omega), by (first | lia | omega), h1⟩
    · rw [if_neg h1] at h; cases h
  · rw [if_neg h0] at h
    by_cases h1 : -(n : Int) ≤ i
    · rw [if_pos h1] at h
      have e : (i + n).toNat = j := Option.some.inj h
      exact ⟨by rw [seqIndex_neg (by (first | lia | omega)) h1, e], by (first | lia | omega), h1, by (first | lia | omega)⟩
    · rw [if_neg h1] at h; cases h
theorem atI_get {α : Type} {xs : List α} {i : Int} {v : α} (h : atI xs i = some v) : ∃ j, seqIndex? i xs.length = some j ∧ xs[j]? = some v ∧ j < xs.length ∧ -(xs.length : Int) ≤ i ∧ i < xs.length := by
  unfold atI at h
  cases e : ixN xs.length i with
  | none => rw [e] at h; cases h
  | some j =>
    rw [e] at h
    obtain ⟨h1, h2, h3, h4⟩ := ixN_seq e
    exact ⟨j, h1, h, h2, h3, h4⟩
theorem atI_nat {α : Type} {xs : List α} {j : Nat} {v : α} (h : xs[j]? = some v) : atI xs (j : Int) = some v := by
  have hj : j < xs.length := (List.getElem?_eq_some_iff.mp h).1
  have e : ixN xs.length (j : Int) = some j := by
    unfold ixN
    rw [if_pos (by (first | lia | omega)), if_pos (by (first | lia | omega))]; simp
  unfold atI; rw [e]; exact h
/-! ### what may be subscripted -/
/-- what stands as an index of a plain subscript -/
def PlainIx (b : Expr) : Prop := ∀ o i, subscripted b false o i = operate [o, i] (getItem o i)
/-- a subscript by values -/
def IxR (X : Cx) (r : R2) : Prop :=
  ∀ (value slice : Expr) (pins : List (Addr × Obj)) (s : Shared) (σ : St) (H : Hp) (x y : V) (v u : Value) (Q : VK), Inv X pins σ H s → RelV x v → RelV y u → r x y H Q →
    subscripted slice false v u = operate [v, u] (getItem v u) → wpAny (model X.prog X.w) X.A (subscriptTail value slice v u) (EP X pins σ Q) X.xe s
/-- a call of a builtin's method by values: the receiver, the arguments -/
def MtR (X : Cx) (id : String) (r : V → List V → Hp → VK → Prop) : Prop :=
  ∀ (pins : List (Addr × Obj)) (s : Shared) (σ : St) (H : Hp) (x : V) (xs : List V) (v : Value) (us : List Value) (Q : VK), Inv X pins σ H s → RelV x v → Vals xs us → r x xs H Q →
    wpAny (model X.prog X.w) X.A (call (.builtin id) (v :: us)) (EP X pins σ Q) X.xe s
section
variable {X : Cx} {a b : Expr} {ta tb : TE} {pos : Pos}
theorem IxR.or {r r' : R2} (h : IxR X r) (h' : IxR X r') : IxR X (fun x y H Q => r x y H Q ∨ r' x y H Q) := by
  intro value slice pins s σ H x y v u Q I rx ry q hs
  rcases q with q | q
  · exact h value slice pins s σ H x y v u Q I rx ry q hs
  · exact h' value slice pins s σ H x y v u Q I rx ry q hs
/-- a[b] -/
theorem pe_ix {r : R2} (hr : IxR X r) (ha : PE X a ta) (hb : PE X b tb) (hs : PlainIx b) : PE X (.Subscript a b pos) (tOp r ta tb) := by
  intro pins s σ H Q I h
  exact Subscript_ (binT ha hb I h fun v u s2 x y H2 I2 rx ry q => hr a b pins s2 σ H2 x y v u Q I2 rx ry q (hs _ _))

def rIxL (K : PySem.W.Frag) : R2 := fun x y H Q => ∃ p xs i v, x = .ref p ∧ y = .int i ∧ SqL K H p xs ∧ atI xs i = some v ∧ Q v H
def rIxT (K : PySem.W.Frag) : R2 := fun x y H Q => ∃ p xs i v, x = .ref p ∧ y = .int i ∧ SqT K H p xs ∧ atI xs i = some v ∧ Q v H
def rIxS : R2 := fun x y H Q => ∃ z i c, x = .str z ∧ y = .int i ∧ z.length ≤ sizeLine ∧ atI z.cps.toList i = some c ∧ Q (.str ⟨#[c]⟩) H
theorem ix_list : IxR X (rIxL X.K) := by
  intro value slice pins s σ H x y v u Q I rx ry h hs
  obtain ⟨p, xs, i, z, rfl, rfl, hq, he, q⟩ := h
  cases rx
  obtain ⟨t, rfl⟩ := ry
  obtain ⟨its, r, pl, hz⟩ := I.list hq
  obtain ⟨j, h1, h2, h3, h4, h5⟩ := atI_get he
  obtain ⟨w, ew, rw'⟩ := r.get h2
  have hl := r.length
  have hn := line63
  have fin : EP X pins σ Q w s := ⟨z, H, I, rw', q⟩
  by_cases h0 : 0 ≤ i
  · have hj : i.toNat = j := by
      rw [seqIndex_of h0 h5] at h1
      exact Option.some.inj h1
    exact item_listR pl.isList h0 (by (first | lia | omega)) (by rw [hj]; simpa using ew) fin hs
  · have hj : (i + (its.toArray.size : Int)).toNat = j := by
      rw [seqIndex_neg (by (first | lia | omega)) h4] at h1
      rw [List.size_toArray, ← hl]
      exact Option.some.inj h1
    exact subscriptTail_builtinR (x := w) pl.isList.typeIs slot_list_getitem.lookup
      (wpAny_getItem_list_neg (Q := fun r s' => r = w ∧ EP X pins σ Q r s') pl.isList (by (first | lia | omega)) (by rw [List.size_toArray] <;> (first | lia | omega)) (by (first | lia | omega)) (by rw [hj]; simpa using ew) ⟨rfl, fin⟩) hs
theorem ix_tup : IxR X (rIxT X.K) := by
  intro value slice pins s σ H x y v u Q I rx ry h hs
  obtain ⟨p, xs, i, z, rfl, rfl, hq, he, q⟩ := h
  cases rx
  obtain ⟨t, rfl⟩ := ry
  obtain ⟨its, r, pl, hz⟩ := I.tuple hq
  obtain ⟨j, h1, h2, h3, h4, h5⟩ := atI_get he
  obtain ⟨w, ew, rw'⟩ := r.get h2
  have hl := r.length
  have hn := line63
  have fin : EP X pins σ Q w s := ⟨z, H, I, rw', q⟩
  exact subscriptTail_builtinR (x := w) pl.typeIs slot_tuple_getitem.lookup
    (getItem_tuple (j := j) (Q := fun r s' => r = w ∧ EP X pins σ Q r s') pl (by (first | lia | omega)) (by (first | lia | omega)) (by rw [List.size_toArray, ← hl]; exact h1) (by simpa using ew) ⟨rfl, fin⟩) hs
theorem ix_str : IxR X rIxS := by
  intro value slice pins s σ H x y v u Q I rx ry h hs
  obtain ⟨z, i, c, rfl, rfl, hz, he, q⟩ := h
  obtain ⟨t, rfl⟩ := rx
  obtain ⟨t', rfl⟩ := ry
  obtain ⟨j, h1, h2, h3, h4, h5⟩ := atI_get he
  have hl : z.cps.toList.length = z.length := by simp [Str.length]
  rw [hl] at h1 h4 h5
  have hn := line63
  exact tail_any (typeIs_str s z t) slot_str_getitem.lookup (getItem_str (c := c) (by
    have e1 : decide (i < -(2 ^ 63 : Int)) = false := decide_eq_false (by (first | lia | omega))
    have e2 : decide (i ≥ 2 ^ 63) = false := decide_eq_false (by (first | lia | omega))
    rw [e1, e2, Bool.or_false]) (by rw [h1]; simpa using h2) ⟨.str ⟨#[c]⟩, H, I.tok _, ⟨_, rfl⟩, q⟩) hs
/-- list, tuple or str -/
def rIx (K : PySem.W.Frag) : R2 := fun x y H Q => rIxL K x y H Q ∨ rIxT K x y H Q ∨ rIxS x y H Q
theorem ix_seq : IxR X (rIx X.K) := ix_list.or (ix_tup.or ix_str)

/-! ### xs[i] = v, any sign -/
/-- the list's object behind a store -/
theorem mapSeq_set (its : List Value) (n j : Nat) (u : Value) : Obj.mapSeq (·.setIfInBounds j u) { cls := .type "list", data := .seq its.toArray n } = { cls := .type "list", data := .seq (its.set j u).toArray n } := by
  simp [Obj.mapSeq]
theorem Inv.lst {pins : List (Addr × Obj)} {σ : St} {H : Hp} {s : Shared} {p : Addr} {xs : List V} (I : Inv X pins σ H s) (h : H p = some (.lst xs)) :
    ∃ (its : List Value) (n : Nat), Vals xs its ∧ s.heap.get? p = some { cls := .type "list", data := .seq its.toArray n } ∧ xs.length ≤ sizeLine := by
  obtain ⟨z, its, n, r, e⟩ := I.hok p _ h
  exact ⟨its, n, r, e, z⟩
/-- the list at p is written by an update of its object -/
theorem Inv.lstUpd {pins : List (Addr × Obj)} {σ : St} {H : Hp} {s : Shared} {p : Addr} {xs ys : List V} {its its' : List Value} {n n' : Nat} {f : Obj → Obj} (I : Inv X pins σ H s) (h : H p = some (.lst xs))
    (ho : s.heap.get? p = some { cls := .type "list", data := .seq its.toArray n }) (hf : f { cls := .type "list", data := .seq its.toArray n } = { cls := .type "list", data := .seq its'.toArray n' }) (r : Vals ys its') (hz : ys.length ≤ sizeLine) (t : Nat) :
    Inv X pins σ (upd H p (.lst ys)) { s with heap := s.heap.update p f, toks := t } := by
  have e : (s.heap.update p f).get? p = some { cls := .type "list", data := .seq its'.toArray n' } := by
    rw [Heap.get?_update_self f ho (by rw [hf] <;> rfl), hf]
  refine I.write (x := p) (e := p) (by rw [h]; trivial) (.inl rfl) (fun b u hb q => (Heap.get?_update_other _ _ (Ne.symm hb)).trans q) ⟨_, e⟩ ?_
  exact ⟨hz, its', n', r, e⟩
def rSetL : V → V → V → Hp → (Hp → Prop) → Prop := fun o i v H Q => ∃ p xs k j, o = .ref p ∧ i = .int k ∧ H p = some (.lst xs) ∧ ixN xs.length k = some j ∧ Q (upd H p (.lst (xs.set j v)))
theorem set_list : PSet X rSetL := by
  intro pins s σ H o i v ov iv u Q I ro ri rv h
  obtain ⟨p, xs, k, j, rfl, rfl, hp, hj, q⟩ := h
  cases ro
  obtain ⟨t, rfl⟩ := ri
  obtain ⟨its, n, r, ho, hz⟩ := I.lst hp
  obtain ⟨h1, h2, h3, h4⟩ := ixN_seq hj
  have hl := r.length
  have hn := line63
  have I' : Inv X pins σ (upd H p (.lst (xs.set j v))) { s with heap := s.heap.update p (Obj.mapSeq (·.setIfInBounds j u)) } :=
    I.lstUpd hp ho (mapSeq_set its n j u) (r.set rv j) (by rw [List.length_set]; exact hz) s.toks
  by_cases h0 : 0 ≤ k
  · have hk : k.toNat = j := by
      rw [seqIndex_of h0 h4] at h1
      exact Option.some.inj h1
    exact PySem.W.ki_setAt ho h0 (by (first | lia | omega)) (by rw [List.size_toArray, ← hl]; exact h4) (by rw [hk]; exact ⟨_, I', q⟩)
  · have hk : (k + (its.toArray.size : Int)).toNat = j := by
      rw [seqIndex_neg (by (first | lia | omega)) h3] at h1
      rw [List.size_toArray, ← hl]
      exact Option.some.inj h1
    exact PySem.W.ki_setBack ho (by (first | lia | omega)) (by rw [List.size_toArray, ← hl]; exact h3) (by (first | lia | omega)) (by rw [hk]; exact ⟨_, I', q⟩)

/-! ### slices -/
theorem slice_bounds (lo hi : Option Int) (n : Nat) : (sliceBounds lo hi none n).1 = ((HT.sIx n 0 lo : Nat) : Int) ∧ (sliceBounds lo hi none n).2.1 = ((HT.sIx n n hi : Nat) : Int) ∧ (sliceBounds lo hi none n).2.2 = 1 := by
  refine ⟨?_, ?_, rfl⟩
  · cases lo with
    | none => simp [sliceBounds, HT.sIx]
    | some i =>
      simp only [sliceBounds, HT.sIx, Option.getD_none, show (1 : Int) > 0 by decide, if_true]
      by_cases h : i < 0
      · simp only [h, if_true] <;> (first | lia | omega)
      · simp only [h, if_false] <;> (first | lia | omega)
  · cases hi with
    | none => simp [sliceBounds, HT.sIx]
    | some i =>
      simp only [sliceBounds, HT.sIx, Option.getD_none, show (1 : Int) > 0 by decide, if_true]
      by_cases h : i < 0
      · simp only [h, if_true] <;> (first | lia | omega)
      · simp only [h, if_false] <;> (first | lia | omega)
theorem slicePick_cut (its : List Value) (lo hi : Option Int) : slicePick its.toArray lo hi none = ((its.drop (HT.sIx its.length 0 lo)).take (HT.sIx its.length its.length hi - HT.sIx its.length 0 lo)).toArray := by
  obtain ⟨h1, h2, h3⟩ := slice_bounds lo hi its.toArray.size
  unfold slicePick
  rw [h1, h2, h3]
  simp only [sliceRange_one, pick_run, List.size_toArray] <;> rfl
/-- xs[lo:hi] of a list: a new list -/
def rSlL (K : PySem.W.Frag) : V → Option Int → Option Int → Hp → VK → Prop := fun x lo hi H Q => ∃ a xs, x = .ref a ∧ SqL K H a xs ∧ ∀ p, H p = none → Q (.ref p) (upd H p (.lst (cutV xs lo hi)))
theorem sl_list : SlR X (rSlL X.K) := by
  intro pins s σ H x v vl vu lo hi sl Q I rx hs pl pu h
  obtain ⟨a, xs, rfl, hx, q⟩ := h
  cases rx
  obtain ⟨its, r, ht, hz⟩ := I.list hx
  have hlen := r.length
  refine ⟨"list", _, slot_list_getitem.lookup, ht.isList.typeIs, ?_⟩
  refine wpAny_getItem_list_slice ht.isList hs pl pu .none (by simp) ?_ (by rw [List.size_toArray] <;> (first | lia | omega))
  rw [slicePick_cut, ← hlen]
  refine ⟨.ref s.heap.objs.size, _, I.laid (t' := s.toks) (o := .lst (cutV xs lo hi)) (fun b ob q => Heap.get?_push_of_some _ q) (Nat.le_refl _) ?_, rfl, q _ (I.hok.fresh (Nat.le_refl _))⟩
  exact ⟨Nat.le_trans (cutV_length xs lo hi) hz, _, 0, (r.drop (HT.sIx xs.length 0 lo)).take (HT.sIx xs.length xs.length hi - HT.sIx xs.length 0 lo), Heap.get?_push_size _ rfl⟩

/-! ### in, not in: flat items -/
/-! ### len, list(x), tuple(x) of any list or tuple that is read -/
theorem call_len_seq : CallR X (.builtin "len") (fun xs H Q => ∃ p ys, xs = [.ref p] ∧ (SqL X.K H p ys ∨ SqT X.K H p ys) ∧ Q (.int ys.length) H) := by
  intro pins s σ H xs us Q I r h
  obtain ⟨p, ys, rfl, hq, q⟩ := h
  obtain ⟨u, rfl, rx⟩ := vals1 r
  cases rx
  have hn := line63
  rcases hq with hq | hq
  · obtain ⟨its, r', pl, hz⟩ := I.list hq
    have hlen := r'.length
    exact Calls.call_len_list pl.isList (by simp only [List.size_toArray] <;> (first | lia | omega)) ⟨.int ys.length, H, I.tok _, ⟨s.toks + 1, by rw [List.size_toArray, hlen]⟩, q⟩
  · obtain ⟨its, r', pl, hz⟩ := I.tuple hq
    have hlen := r'.length
    exact len_tuple pl (by simp only [List.size_toArray] <;> (first | lia | omega)) ⟨.int ys.length, H, I.tok _, ⟨s.toks + 1, by rw [List.size_toArray, hlen]⟩, q⟩
theorem CallR.or {f : Value} {r r' : List V → Hp → VK → Prop} (h : CallR X f r) (h' : CallR X f r') : CallR X f (fun xs H Q => r xs H Q ∨ r' xs H Q) := by
  intro pins s σ H xs us Q I rs q
  rcases q with q | q
  · exact h pins s σ H xs us Q I rs q
  · exact h' pins s σ H xs us Q I rs q
/-! ### the call of a builtin's method: o.m(..) -/
/-- the value is of that builtin type -/
def tyV (K : PySem.W.Frag) (T : String) (x : V) (H : Hp) : Prop := match x with
  | .str _ => T = "str"
  | .int _ => T = "int"
  | .ref p => (T = "list" ∧ ∃ xs, SqL K H p xs) ∨ (T = "tuple" ∧ ∃ o, K.lookup p = some o ∧ o.cls = .type "tuple" ∧ o.dict = none) ∨
      (T = "dict" ∧ ((∃ kvs, H p = some (.dK kvs)) ∨ ∃ kvs, H p = some (.dT kvs))) ∨ (T = "set" ∧ ∃ S n, H p = some (.set S n))
  | _ => False
theorem tyV_is {pins : List (Addr × Obj)} {σ : St} {H : Hp} {s : Shared} {T : String} {x : V} {v : Value} (I : Inv X pins σ H s) (r : RelV x v) (ty : tyV X.K T x H) :
    s.TypeIs v T ∧ ∀ a, v = .ref a → ∃ ob, s.heap.get? a = some ob ∧ ob.dict = none := by
  cases x with
  | str z =>
    obtain ⟨t, rfl⟩ := r
    cases (show T = "str" from ty)
    exact ⟨typeIs_str s z t, fun _ e => nomatch e⟩
  | int i =>
    obtain ⟨t, rfl⟩ := r
    cases (show T = "int" from ty)
    exact ⟨typeIs_int s i t, fun _ e => nomatch e⟩
  | ref p =>
    cases r
    rcases ty with ⟨rfl, xs, hq⟩ | ⟨rfl, o, hk, hc, hd⟩ | ⟨rfl, hk⟩ | ⟨rfl, S, n, hk⟩
    · obtain ⟨its, _, pl, _⟩ := I.list hq
      refine ⟨pl.isList.typeIs, fun a e => ?_⟩
      cases e
      obtain ⟨o, n, e, c, hd, _⟩ := pl
      exact ⟨o, e, hd⟩
    · refine ⟨⟨o, I.kIn p o hk, hc⟩, fun a e => ?_⟩
      cases e
      exact ⟨o, I.kIn _ o hk, hd⟩
    · have z : ∃ o, s.heap.get? p = some o ∧ o.ExactDict := by
        rcases hk with ⟨kvs, hk⟩ | ⟨kvs, hk⟩
        · obtain ⟨_, _, _, _, o, _, _, e, ex, _⟩ := I.hok p _ hk
          exact ⟨o, e, ex⟩
        · obtain ⟨_, _, _, _, o, _, _, e, ex, _⟩ := I.hok p _ hk
          exact ⟨o, e, ex⟩
      obtain ⟨o, e, ex⟩ := z
      refine ⟨⟨o, e, ex.1⟩, fun a e2 => ?_⟩
      cases e2
      exact ⟨o, e, ex.2.1⟩
    · obtain ⟨o, _, _, _, e, ex, _⟩ := I.hok p _ hk
      refine ⟨⟨o, e, ex.1⟩, fun a e2 => ?_⟩
      cases e2
      exact ⟨o, e, ex.2.1⟩
  | _ => exact False.elim ty
def tBM (K : PySem.W.Frag) (T : String) (r : V → List V → Hp → VK → Prop) (to : TE) (t : TA) : TE := fun σ H Q => to σ H fun x H1 => tyV K T x H1 ∧ t σ H1 fun xs H2 => r x xs H2 Q
variable {o e : Expr} {es : List Expr} {to : TE} {t : TA} {name : Str} {apos cpos : Pos} {T id : String} {r : V → List V → Hp → VK → Prop}
theorem pe_bm (pa : PlainAttrs T) (slot : Slot T name id) (hty : typeOf (.builtin id) = pure (.type "method_descriptor")) (hm : MtR X id r) (ho : PE X o to) (ha : PA X (e :: es) t)
    (hbase : attributeBase o name X.env (eval o X.env) = eval o X.env := by rfl)
    (hfew : ((backTo cpos (starEach (e :: es) X.env)).all (fun x => !x.1) && (backToKw cpos (keywordEach [] X.env)).all (fun x => x.1.isSome)
      && decide ((e :: es).length + ([] : List Keyword).length + (if ([] : List Keyword).isEmpty then 0 else 1) < 30)) = true := by rfl)
    (hline : (apos.endLine == cpos.line) = true := by rfl) (hs : starEach (e :: es) X.env = (false, eval e X.env) :: starEach es X.env := by rfl) (hplain : (backTo cpos (starEach es X.env)).any (·.1) = false := by rfl) :
    PE X (.Call (.Attribute o name apos) (e :: es) [] cpos) (tBM X.K T r to t) := by
  intro pins s σ H Q I h
  refine wpAny_Call_method_late hbase hfew hline rfl (thn (ho pins s σ H _ I h) fun v s1 ⟨x, H1, I1, r1, ty, q1⟩ => ?_)
  obtain ⟨h1, h2⟩ := tyV_is I1 r1 ty
  refine ⟨T, id, pa, slot, hty, h1, h2, ?_⟩
  have hA := ha cpos pins s1 σ H1 _ I1 q1
  rw [hs] at hA ⊢
  refine Calls.callWith_builtin (by show (false || (backTo cpos (starEach es X.env)).any (·.1)) = false; rw [hplain] <;> rfl) (Calls.evalArgs_plain ?_)
  exact thn hA fun us s2 ⟨vs, H2, I2, r2, q2⟩ => hm pins s2 σ H2 x vs v us Q I2 r1 r2 q2
/- xs.append(e), list.index on a module's tuple .. are MtR facts of 06m -/
end
end L2

namespace L2
open PySem PySem.Spec PyProof.Rows

def MtM (X : Cx) (id : String) (r : V → List V → Hp → VK → Prop) : Prop :=
  ∀ (pins : List (Addr × Obj)) (s : Shared) (σ : St) (H : Hp) (x : V) (xs : List V) (v : Value) (us : List Value) (Q : VK), Inv X pins σ H s → RelV x v → Vals xs us → r x xs H Q →
    wpAny (model X.prog X.w) X.A (call (.builtin id) (v :: us)) (EP X pins σ Q) X.xe s

/-! ### lists of values -/
theorem Vals.one : ∀ {x : V} {us : List Value}, Vals [x] us → ∃ u, us = [u] ∧ RelV x u
  | _, _, .cons r .nil => ⟨_, rfl, r⟩
theorem Vals.rep {xs : List V} {us : List Value} (h : Vals xs us) : ∀ k : Nat, Vals (List.replicate k xs).flatten (List.replicate k us).flatten
  | 0 => .nil
  | k + 1 => by
    rw [List.replicate_succ, List.replicate_succ, List.flatten_cons, List.flatten_cons]
    exact Vals.append h (Vals.rep h k)
theorem foldl_rep (its : List Value) : ∀ (k : Nat) (acc : List Value),
    List.foldl (fun x1 x2 => x1 ++ x2) acc.toArray (List.replicate k its.toArray) = (acc ++ (List.replicate k its).flatten).toArray
  | 0, acc => by simp
  | k + 1, acc => by
    have e : acc.toArray ++ its.toArray = (acc ++ its).toArray := by simp
    have e2 : (acc ++ its) ++ (List.replicate k its).flatten = acc ++ (List.replicate (k + 1) its).flatten := by
      rw [List.replicate_succ, List.flatten_cons, List.append_assoc]
    rw [← e2, ← foldl_rep its k (acc ++ its), ← e, List.replicate_succ, List.foldl_cons]

section
variable {X : Cx} {pins : List (Addr × Obj)} {σ : St} {H : Hp} {s : Shared} {l b : Addr} {xs ys zs : List V}

/-! ### the two steps: a tracked list is rewritten, a new list is laid -/
theorem Inv.lset {its its' : List Value} {n : Nat} {f : Array Value → Array Value} {t' : Nat} (I : Inv X pins σ H s) (hH : H l = some (.lst xs))
    (e : s.heap.get? l = some { cls := .type "list", data := .seq its.toArray n }) (hf : f its.toArray = its'.toArray) (hv : Vals ys its') (hz : ys.length ≤ sizeLine) :
    Inv X pins σ (upd H l (.lst ys)) { s with heap := s.heap.update l (Obj.mapSeq f), toks := t' } := by
  have q := PySem.IsL.update e f
  rw [hf] at q
  refine I.write (x := l) (e := l) (by rw [hH]; exact trivial) (.inl rfl) (fun b' u hb hu => (Heap.get?_update_other s.heap (Obj.mapSeq f) (Ne.symm hb)).trans hu) ⟨_, q⟩ ?_
  exact ⟨hz, its', _, hv, q⟩
theorem Inv.lnew {its : List Value} {t' : Nat} (I : Inv X pins σ H s) (hv : Vals ys its) (hz : ys.length ≤ sizeLine) :
    Inv X pins σ (upd H s.heap.objs.size (.lst ys)) { s with heap := s.heap.push { cls := .type "list", data := .seq its.toArray }, toks := t' } :=
  I.laid (fun _ _ q => Heap.get?_push_of_some _ q) (Nat.le_refl _) ⟨hz, its, 0, hv, Heap.get?_push_size _ rfl⟩
theorem Inv.fresh (I : Inv X pins σ H s) : H s.heap.objs.size = none := I.hok.fresh (Nat.le_refl _)
theorem Inv.lstM (I : Inv X pins σ H s) (hH : H l = some (.lst xs)) : xs.length ≤ sizeLine ∧ ∃ (its : List Value) (n : Nat), Vals xs its ∧ xs.length = its.length ∧ s.heap.get? l = some { cls := .type "list", data := .seq its.toArray n } := by
  obtain ⟨z, its, n, r, e⟩ := I.hok l _ hH
  exact ⟨z, its, n, r, r.length, e⟩

theorem notLongL {n : Nat} (h : n ≤ sizeLine) : Builtin.List.listTooLong n = false := by
  unfold Builtin.List.listTooLong
  exact decide_eq_false (by (first | lia | omega))
end

section
variable {X : Cx}

/-! ### methods -/
def rAppend : V → List V → Hp → VK → Prop := fun x vs H Q => ∃ l xs y, x = .ref l ∧ vs = [y] ∧ H l = some (.lst xs) ∧ xs.length < sizeLine ∧ Q .non (upd H l (.lst (xs ++ [y])))
theorem mt_append : MtM X "list.append" rAppend := by
  intro pins s σ H x vs v us Q I rx rv h
  obtain ⟨l, xs, y, rfl, rfl, hH, hz, q⟩ := h
  cases rx
  obtain ⟨u, rfl, ru⟩ := rv.one
  obtain ⟨z, its, n, r, hl, e⟩ := I.lstM hH
  refine call_meets F.slot_list_append ⟨_, e, rfl⟩ F.entry_list_append (F.args_list_append_2 _ _) (PySem.list_append l its.toArray n u (by rw [List.size_toArray]; (first | lia | omega))) ⟨e, ?_⟩
  refine ⟨.non, _, I.lset (its' := its ++ [u]) hH e (by simp) (r.append (.cons ru .nil)) ?_, rfl, q⟩
  rw [List.length_append, List.length_singleton]
  (first | lia | omega)

/-! ### list + list, list += list, list * int -/
def rCat : R2 := fun x y H Q => ∃ l b xs zs, x = .ref l ∧ y = .ref b ∧ H l = some (.lst xs) ∧ H b = some (.lst zs) ∧ xs.length + zs.length ≤ sizeLine ∧ ∀ p, H p = none → Q (.ref p) (upd H p (.lst (xs ++ zs)))
theorem op_cat : OpR X (binaryOp .Add) rCat := by
  intro pins s σ H x y v u Q I rx ry h
  obtain ⟨l, b, xs, zs, rfl, rfl, hH, hB, hz, q⟩ := h
  cases rx
  cases ry
  obtain ⟨z, its, n, r, hl, e⟩ := I.lstM hH
  obtain ⟨z2, its2, n2, r2, hl2, e2⟩ := I.lstM hB
  refine PySem.P.add_list e e2 ?_ (by rw [List.size_toArray, List.size_toArray]; (first | lia | omega))
  have ea : its.toArray ++ its2.toArray = (its ++ its2).toArray := by simp
  rw [ea]
  exact ⟨.ref _, _, I.lnew (t' := s.toks) (r.append r2) (by rw [List.length_append]; (first | lia | omega)), rfl, q _ I.fresh⟩
/-- a list times an int (a negative one is nothing) -/
def rRep : R2 := fun x y H Q => ∃ l k xs, x = .ref l ∧ y = .int k ∧ H l = some (.lst xs) ∧ -(2 ^ 63) ≤ k ∧ k < 2 ^ 63 ∧ xs.length * k.toNat ≤ sizeLine ∧
  ∀ p, H p = none → Q (.ref p) (upd H p (.lst (List.replicate k.toNat xs).flatten))
theorem len_rep {α : Type} (xs : List α) (k : Nat) : (List.replicate k xs).flatten.length = k * xs.length := by
  induction k with
  | zero => simp
  | succ k ih => rw [List.replicate_succ, List.flatten_cons, List.length_append, ih, Nat.succ_mul, Nat.add_comm]
theorem op_rep : OpR X (binaryOp .Mult) rRep := by
  intro pins s σ H x y v u Q I rx ry h
  obtain ⟨l, k, xs, rfl, rfl, hH, h1, h2, hz, q⟩ := h
  cases rx
  obtain ⟨t, rfl⟩ := ry
  obtain ⟨z, its, n, r, hl, e⟩ := I.lstM hH
  have hlen : its.toArray.size * k.toNat ≤ sizeLine := by rw [List.size_toArray, ← hl]; exact hz
  have hcap : ¬ its.toArray.size * k.toNat > (2 ^ 63 - 1) / 8 := by
    have : (sizeLine : Nat) ≤ (2 ^ 63 - 1) / 8 := by decide
    (first | lia | omega)
  have hfit : ¬ (!Builtin.List.listFitsIndex k) = true := by
    rw [fitsIndex_both h1 h2]
    exact Bool.false_ne_true
  have hlong : ¬ Builtin.List.listTooLong (its.toArray.size * k.toNat) = true := by
    rw [notLongL hlen]
    exact Bool.false_ne_true
  have hnew : List.foldl (fun x1 x2 => x1 ++ x2) #[] (List.replicate (if its.toArray.isEmpty = true then 0 else k.toNat) its.toArray) = (List.replicate k.toNat its).flatten.toArray := by
    have f0 : ∀ m : Nat, List.foldl (fun x1 x2 => x1 ++ x2) #[] (List.replicate m its.toArray) = (List.replicate m its).flatten.toArray := fun m => by
      have := foldl_rep its m []
      rw [List.nil_append] at this
      exact this
    rw [f0]
    cases its with
    | nil => simp
    | cons a r' => rw [if_neg (by simp)]
  refine wpAny_binaryOp_repeat_ref (T := "list") (U := "int") (by decide) ⟨_, e, rfl⟩ (fun s' => typeIs_int s' k t) noFill_list_mul F.fills_int_mul F.slot_int_rmul repeat_list F.slot_int_index.lookup
    (call_meets F.slot_int_rmul (typeIs_int s k t) F.entry_int_rmul (F.args_int_rmul_2 _ _) (int___rmul___int_list k t l its.toArray n)
      ⟨e, rfl, ⟨_, e, rfl⟩, call_meets F.slot_list_mul ⟨_, e, rfl⟩ F.entry_list_mul (F.args_list_mul_2 _ _) (AutoListH.list___mul___list_int_3 l its.toArray n k t hfit hcap hlong) ⟨e, ?_⟩⟩)
  rw [hnew]
  exact ⟨.ref _, _, I.lnew (t' := s.toks) (r.rep k.toNat) (by rw [len_rep, Nat.mul_comm]; exact hz), rfl, q _ I.fresh⟩

/-! ### del xs[i] -/
end

/-! ### xs[a:b] = ys -/
section
variable {prog : Program} {w : World} {A : Around} {E : Value → Shared → Prop} {s : Shared}
set_option maxRecDepth 100000 in
end

section
variable {X : Cx}
end
end L2

namespace L2
open PySem PySem.Spec PyProof.Rows

/-! ### lists of pairs as tables -/
section
variable {κ : Type} [DecidableEq κ]
def valV (kvs : List (κ × V)) (k : κ) : Option V := (kvs.find? fun kv => decide (kv.1 = k)).map (·.2)
/-- in its place, or at the end -/
def putK (kvs : List (κ × V)) (k : κ) (v : V) : List (κ × V) :=
  if (kvs.any fun kv => decide (kv.1 = k)) = true then kvs.map (fun kv => if kv.1 = k then (kv.1, v) else kv) else kvs ++ [(k, v)]
theorem valV_nil {k : κ} : valV ([] : List (κ × V)) k = none := rfl
theorem valV_pos {p : κ × V} {r : List (κ × V)} {k : κ} (e : p.1 = k) : valV (p :: r) k = some p.2 := by simp [valV, List.find?_cons, e]
theorem valV_neg {p : κ × V} {r : List (κ × V)} {k : κ} (e : ¬ p.1 = k) : valV (p :: r) k = valV r k := by simp [valV, List.find?_cons, e]
theorem valV_any (k : κ) : ∀ kvs : List (κ × V), (kvs.any fun kv => decide (kv.1 = k)) = (valV kvs k).isSome
  | [] => rfl
  | p :: r => by
    rw [List.any_cons]
    by_cases e : p.1 = k
    · simp only [valV_pos e, decide_eq_true e, Bool.true_or, Option.isSome_some]
    · rw [valV_neg e, decide_eq_false e, Bool.false_or]; exact valV_any k r
theorem valV_map (k j : κ) (y : V) : ∀ kvs : List (κ × V), valV (kvs.map fun kv => if kv.1 = k then (kv.1, y) else kv) j = (valV kvs j).map fun x => if j = k then y else x
  | [] => rfl
  | p :: r => by
    have ih := valV_map k j y r
    rw [List.map_cons]
    by_cases h : p.1 = k
    · rw [if_pos h]
      by_cases e : p.1 = j
      · rw [valV_pos (p := (p.1, y)) e, valV_pos e, Option.map_some, if_pos (e.symm.trans h)]
      · rw [valV_neg (p := (p.1, y)) e, valV_neg e, ih]
    · rw [if_neg h]
      by_cases e : p.1 = j
      · rw [valV_pos (p := p) e, valV_pos e, Option.map_some, if_neg (fun z => h (e.trans z))]
      · rw [valV_neg (p := p) e, valV_neg e, ih]
theorem valV_snoc (k j : κ) (y : V) : ∀ kvs : List (κ × V), valV kvs k = none → valV (kvs ++ [(k, y)]) j = if j = k then some y else valV kvs j
  | [], _ => by
    by_cases e : k = j
    · rw [if_pos e.symm]; exact valV_pos (p := (k, y)) e
    · rw [if_neg (fun z => e z.symm)]; exact valV_neg (p := (k, y)) e
  | p :: r, hn => by
    rw [List.cons_append]
    have hk : ¬ p.1 = k := fun z => by rw [valV_pos z] at hn; cases hn
    rw [valV_neg hk] at hn
    have ih := valV_snoc k j y r hn
    by_cases e : p.1 = j
    · rw [valV_pos e, valV_pos e, if_neg (fun z => hk (e.trans z))]
    · rw [valV_neg e, valV_neg e, ih]
theorem valV_put (kvs : List (κ × V)) (k j : κ) (y : V) : valV (putK kvs k y) j = if j = k then some y else valV kvs j := by
  unfold putK
  by_cases a : (kvs.any fun kv => decide (kv.1 = k)) = true
  · rw [if_pos a, valV_map]
    rw [valV_any] at a
    by_cases e : j = k
    · obtain ⟨x, hx⟩ := Option.isSome_iff_exists.mp a
      rw [if_pos e, e, hx, Option.map_some, if_pos rfl]
    · rw [if_neg e]
      cases valV kvs j with
      | none => rfl
      | some x => rw [Option.map_some, if_neg e]
  · rw [if_neg a]
    refine valV_snoc k j y kvs ?_
    rw [valV_any] at a
    cases q : valV kvs k with
    | none => rfl
    | some x => rw [q] at a; exact (a rfl).elim
theorem length_putK (kvs : List (κ × V)) (k : κ) (v : V) : (putK kvs k v).length ≤ kvs.length + 1 := by
  unfold putK
  split
  · rw [List.length_map]; (first | lia | omega)
  · rw [List.length_append, List.length_cons, List.length_nil]; (first | lia | omega)
theorem putK_new {kvs : List (κ × V)} {k : κ} (v : V) (h : valV kvs k = none) : putK kvs k v = kvs ++ [(k, v)] := by
  unfold putK
  rw [valV_any, h]
  exact if_neg (by decide)

theorem RelO.isSome_eq {o : Option V} {u : Option Value} (r : RelO o u) : o.isSome = u.isSome := by
  cases o with
  | none => cases u with
    | none => rfl
    | some _ => exact (show False from r).elim
  | some _ => cases u with
    | none => exact (show False from r).elim
    | some _ => rfl
theorem RelO.getD {o : Option V} {u : Option Value} {d : V} {d' : Value} (r : RelO o u) (rd : RelV d d') : RelV (o.getD d) (u.getD d') := by
  cases o with
  | none => cases u with
    | none => exact rd
    | some _ => exact (show False from r).elim
  | some _ => cases u with
    | none => exact (show False from r).elim
    | some _ => exact r

/-- raw tables of the same keys -/
theorem KV.val {kvs : List (κ × V)} {vs : List (κ × Value)} (r : KV kvs vs) (k : κ) : RelO (valV kvs k) (valueAt vs k) := by
  unfold KV at r
  induction r with
  | nil => exact True.intro
  | @cons p q ps qs h t ih =>
    obtain ⟨h1, h2⟩ := h
    by_cases e : p.1 = k
    · have e' : q.1 = k := h1.symm.trans e
      have b : valueAt (q :: qs) k = some q.2 := by simp [valueAt, List.find?_cons, e']
      rw [valV_pos e, b]; exact h2
    · have e' : ¬ q.1 = k := fun z => e (h1.trans z)
      have b : valueAt (q :: qs) k = valueAt qs k := by simp [valueAt, List.find?_cons, e']
      rw [valV_neg e, b]; exact ih
theorem KV.any {kvs : List (κ × V)} {vs : List (κ × Value)} (r : KV kvs vs) (k : κ) : (kvs.any fun kv => decide (kv.1 = k)) = vs.any fun kv => decide (kv.1 = k) := by
  unfold KV at r
  induction r with
  | nil => rfl
  | cons h t ih => rw [List.any_cons, List.any_cons, ih, h.1]
theorem KV.repl {kvs : List (κ × V)} {vs : List (κ × Value)} (r : KV kvs vs) (k : κ) {y : V} {u : Value} (ry : RelV y u) :
    KV (kvs.map fun kv => if kv.1 = k then (kv.1, y) else kv) (vs.map fun kv => if kv.1 = k then (kv.1, u) else kv) := by
  unfold KV at r ⊢
  induction r with
  | nil => exact .nil
  | @cons p q ps qs h t ih =>
    rw [List.map_cons, List.map_cons]
    refine .cons ?_ ih
    obtain ⟨h1, h2⟩ := h
    by_cases e : p.1 = k
    · rw [if_pos e, if_pos (h1.symm.trans e)]; exact ⟨h1, ry⟩
    · rw [if_neg e, if_neg (fun z => e (h1.trans z))]; exact ⟨h1, h2⟩
theorem KV.put {kvs : List (κ × V)} {vs : List (κ × Value)} (r : KV kvs vs) (k : κ) {y : V} {u : Value} (ry : RelV y u) : KV (putK kvs k y) (stored vs k u) := by
  unfold putK stored
  rw [r.any k]
  by_cases e : (vs.any fun kv => decide (kv.1 = k)) = true
  · rw [if_pos e, if_pos e]; exact r.repl k ry
  · rw [if_neg e, if_neg e]; exact Paired.snoc r ⟨rfl, ry⟩
theorem KV.length {kvs : List (κ × V)} {vs : List (κ × Value)} (r : KV kvs vs) : kvs.length = vs.length := Paired.length r
end


/-! ### a tracked dict, its keys ints and texts or tuples of these -/
theorem kV_is {P : Program} {w : World} {k : Key} {u : Value} (r : RelV (kV k) u) : (mixKind P w).is k u = true := by
  cases k with
  | inl i => obtain ⟨t, e⟩ := (show ∃ t, u = Value.int i t from r); subst e; exact mixKind_int P w i t
  | inr x => obtain ⟨t, e⟩ := (show ∃ t, u = Value.str x t from r); subst e; exact mixKind_str P w x t
theorem items_are {P : Program} {w : World} : ∀ {ks : List Key} {us : List Value}, Vals (ks.map kV) us → ItemsAre (mixKind P w) ks us
  | [], _, r => by rw [List.map_nil] at r; cases r; exact .nil
  | k :: ks, _, r => by
    rw [List.map_cons] at r
    cases r with
    | cons h t => exact .cons (kV_is h) (items_are t)

/-- raw entries of a dict with tuple keys -/
abbrev KT (H : Hp) : List (List Key × V) → List (List Key × Addr × Value) → Prop := Paired fun p q => p.1 = q.1 ∧ H q.2.1 = some (.tup (p.1.map kV)) ∧ RelV p.2 q.2.2
theorem KT.val {H : Hp} {kvs : List (List Key × V)} {xs : List (List Key × Addr × Value)} (r : KT H kvs xs) (k : List Key) : RelO (valV kvs k) ((atKey xs k).map (·.2)) := by
  induction r with
  | nil => exact True.intro
  | @cons p q ps qs h t ih =>
    obtain ⟨h1, _, h2⟩ := h
    by_cases e : p.1 = k
    · have e' : q.1 = k := h1.symm.trans e
      have b : atKey (q :: qs) k = some q.2 := by simp [atKey, List.find?_cons, e']
      rw [valV_pos e, b]; exact h2
    · have e' : ¬ q.1 = k := fun z => e (h1.trans z)
      have b : atKey (q :: qs) k = atKey qs k := by simp [atKey, List.find?_cons, e']
      rw [valV_neg e, b]; exact ih
theorem KT.repl {H : Hp} {kvs : List (List Key × V)} {xs : List (List Key × Addr × Value)} (r : KT H kvs xs) (k : List Key) {y : V} {u : Value} (ry : RelV y u) :
    KT H (kvs.map fun kv => if kv.1 = k then (kv.1, y) else kv) (xs.map (putAt k u)) := by
  induction r with
  | nil => exact .nil
  | @cons p q ps qs h t ih =>
    rw [List.map_cons, List.map_cons]
    refine .cons ?_ ih
    obtain ⟨h1, h2, h3⟩ := h
    unfold putAt
    by_cases e : p.1 = k
    · rw [if_pos e, if_pos (h1.symm.trans e)]; exact ⟨h1, h2, ry⟩
    · rw [if_neg e, if_neg (fun z => e (h1.trans z))]; exact ⟨h1, h2, h3⟩
theorem KT.put {H : Hp} {kvs : List (List Key × V)} {xs : List (List Key × Addr × Value)} (r : KT H kvs xs) (k : List Key) {b : Addr} {y : V} {u : Value} (hb : H b = some (.tup (k.map kV))) (ry : RelV y u) :
    KT H (putK kvs k y) (storedH xs k b u) := by
  have e : (kvs.any fun kv => decide (kv.1 = k)) = (atKey xs k).isSome := by
    rw [valV_any, (r.val k).isSome_eq, Option.isSome_map]
  unfold putK storedH
  rw [e]
  by_cases q : (atKey xs k).isSome = true
  · rw [if_pos q, if_pos q]; exact r.repl k ry
  · rw [if_neg q, if_neg q]; exact Paired.snoc r ⟨rfl, hb, ry⟩
theorem KT.keeps {H H' : Hp} {kvs : List (List Key × V)} {xs : List (List Key × Addr × Value)} (r : KT H kvs xs) (ht : ∀ b ys, H b = some (.tup ys) → H' b = some (.tup ys)) : KT H' kvs xs :=
  Paired.mapP r fun _ _ z => ⟨z.1, ht _ _ z.2.1, z.2.2⟩

section
variable {P : Program} {w : World} {H : Hp} {h : Heap} {a : Addr}
theorem rd_of {u : HO} (ok : HOk P w H h) (e : Rd H a u) : ObjOk P w H h a u := e.ok ok
theorem dk_rd {kvs : List (Key × V)} (ok : HOk P w H h) (e : Rd H a (.dK kvs)) : kvs.length ≤ sizeLine ∧ (a == sysModules) = false ∧ ∃ vs, KV kvs vs ∧ h.DictOf (mixKind P w) a vs :=
  show ObjOk P w H h a (.dK kvs) from rd_of ok e
theorem dk_of {kvs : List (Key × V)} (ok : HOk P w H h) (e : H a = some (.dK kvs)) : kvs.length ≤ sizeLine ∧ (a == sysModules) = false ∧ ∃ vs, KV kvs vs ∧ h.DictOf (mixKind P w) a vs := dk_rd ok (.inl e)
/-- a tracked tuple of ints and texts is a key -/
theorem key_of {ks : List Key} (ok : HOk P w H h) (e : H a = some (.tup (ks.map kV))) : (tupleKind (mixKind P w)).is h ks a := by
  obtain ⟨_, its, r, o, h1, h2, n, h3⟩ := (show ObjOk P w H h a (.tup (ks.map kV)) from ok a _ e)
  exact ⟨o, its.toArray, n, h1, h2, h3, by simpa using items_are r⟩
theorem dt_rd {kvs : List (List Key × V)} (ok : HOk P w H h) (e : Rd H a (.dT kvs)) : kvs.length ≤ sizeLine ∧ (a == sysModules) = false ∧
    ∃ xs, KT H kvs xs ∧ h.DictOfH (tupleKind (mixKind P w)) a xs := by
  obtain ⟨z, y, xs, r, o, es, ep, h1, h2, h3, h4, h5⟩ := (show ObjOk P w H h a (.dT kvs) from rd_of ok e)
  refine ⟨z, y, xs, r, o, es, ep, h1, h2, h3, h4, fun x hx => ?_, h5⟩
  have all : ∀ {l : List (List Key × V)} {m : List (List Key × Addr × Value)}, KT H l m → ∀ x ∈ m, (tupleKind (mixKind P w)).is h x.1 x.2.1 := by
    intro l m q
    induction q with
    | nil => intro x hx; exact nomatch hx
    | @cons p q ps qs hq t ih =>
      intro x hx
      rcases List.mem_cons.mp hx with e | hx
      · subst e
        exact key_of ok (by rw [← hq.1]; exact hq.2.1)
      · exact ih x hx
  exact all r x hx
theorem dt_of {kvs : List (List Key × V)} (ok : HOk P w H h) (e : H a = some (.dT kvs)) : kvs.length ≤ sizeLine ∧ (a == sysModules) = false ∧
    ∃ xs, KT H kvs xs ∧ h.DictOfH (tupleKind (mixKind P w)) a xs := dt_rd ok (.inl e)
end

/-- what the dict at a holds at the key y -/
def DGet (H : Hp) (a : Addr) (y : V) (r : Option V) : Prop :=
  (∃ kvs k, Rd H a (.dK kvs) ∧ y = kV k ∧ r = valV kvs k) ∨ ∃ kvs k b, Rd H a (.dT kvs) ∧ y = .ref b ∧ H b = some (.tup (k.map kV)) ∧ r = valV kvs k
/-- the heap behind a[y] = v -/
def DPut (H : Hp) (a : Addr) (y v : V) (H' : Hp) : Prop :=
  (∃ kvs k, H a = some (.dK kvs) ∧ y = kV k ∧ kvs.length < sizeLine ∧ H' = upd H a (.dK (putK kvs k v))) ∨
  ∃ kvs k b, H a = some (.dT kvs) ∧ y = .ref b ∧ H b = some (.tup (k.map kV)) ∧ kvs.length < sizeLine ∧ H' = upd H a (.dT (putK kvs k v))
theorem DPut.t {H : Hp} {a b : Addr} {kvs : List (List Key × V)} {k : List Key} {v : V} (e : H a = some (.dT kvs)) (eb : H b = some (.tup (k.map kV))) (hl : kvs.length < sizeLine) :
    DPut H a (.ref b) v (upd H a (.dT (putK kvs k v))) := .inr ⟨kvs, k, b, e, rfl, eb, hl, rfl⟩


section
variable {X : Cx} {pins : List (Addr × Obj)} {σ : St} {H : Hp} {s : Shared} {a : Addr} {y v : V} {u r : Value} {o : Option V} {A : Around} {E : Value → Shared → Prop}

theorem Inv.big (I : Inv X pins σ H s) : sysModules < s.heap.objs.size := by
  have h : mainGlobals < s.heap.objs.size := (I.mod.glob.keeps I.bk).lt
  exact Nat.lt_trans (by decide) h

/-- d[y], there -/
theorem d_getItem {Q : Value → Shared → Prop} (hu : A.units + 1 < cLine) (I : Inv X pins σ H s) (g : DGet H a y (some v)) (ry : RelV y u) (h : ∀ w' s', Inv X pins σ H s' → RelV v w' → Q w' s') :
    wpAny (model X.prog X.w) A (getItem (.ref a) u) Q E s := by
  rcases g with ⟨kvs, k, e, ey, l⟩ | ⟨kvs, k, b, e, ey, eb, l⟩
  · subst ey
    obtain ⟨z, hd, vs, rel, dd⟩ := dk_rd I.hok e
    obtain ⟨w', hw, rw'⟩ := RelO.some_of (v := v) (o := valueAt vs k) (by rw [l]; exact rel.val k)
    exact wpAny_getItem_of (kV_is ry) dd.mapOf hw (h w' _ (I.tok _) rw')
  · subst ey
    cases (show u = Value.ref b from ry)
    obtain ⟨z, hd, xs, rel, dd⟩ := dt_rd I.hok e
    obtain ⟨w', hw, rw'⟩ := RelO.some_of (v := v) (o := (atKey xs k).map (·.2)) (by rw [l]; exact rel.val k)
    obtain ⟨p, hp, hp2⟩ := Option.map_eq_some_iff.mp hw
    refine wpAny_getItem_heap (tupleKind_room_in1 hu) (key_of I.hok eb) dd hp ?_
    rw [hp2]
    exact h w' _ (I.tok _) rw'
/-- y in d -/
theorem d_in {Q : Value → Shared → Prop} (hu : A.units + 1 < cLine) (I : Inv X pins σ H s) (g : DGet H a y o) (ry : RelV y u) (h : ∀ s', Inv X pins σ H s' → Q (.bool o.isSome) s') :
    wpAny (model X.prog X.w) A (compareOp .In u (.ref a)) Q E s := by
  rcases g with ⟨kvs, k, e, ey, l⟩ | ⟨kvs, k, b, e, ey, eb, l⟩
  · subst ey
    obtain ⟨z, hd, vs, rel, dd⟩ := dk_rd I.hok e
    refine wpAny_in_of (kV_is ry) hd dd.mapOf ?_
    rw [← (rel.val k).isSome_eq, ← l]
    exact h _ (I.tok _)
  · subst ey
    cases (show u = Value.ref b from ry)
    obtain ⟨z, hd, xs, rel, dd⟩ := dt_rd I.hok e
    refine wpAny_in_heap (tupleKind_room_in1 hu) (key_of I.hok eb) hd dd ?_
    have q := (rel.val k).isSome_eq
    rw [Option.isSome_map] at q
    rw [← q, ← l]
    exact h _ (I.tok _)
theorem d_notIn {Q : Value → Shared → Prop} (hu : A.units + 1 < cLine) (I : Inv X pins σ H s) (g : DGet H a y o) (ry : RelV y u) (h : ∀ s', Inv X pins σ H s' → Q (.bool (!o.isSome)) s') :
    wpAny (model X.prog X.w) A (compareOp .NotIn u (.ref a)) Q E s := by
  rcases g with ⟨kvs, k, e, ey, l⟩ | ⟨kvs, k, b, e, ey, eb, l⟩
  · subst ey
    obtain ⟨z, hd, vs, rel, dd⟩ := dk_rd I.hok e
    refine wpAny_notIn_of (kV_is ry) hd dd.mapOf ?_
    rw [← (rel.val k).isSome_eq, ← l]
    exact h _ (I.tok _)
  · subst ey
    cases (show u = Value.ref b from ry)
    obtain ⟨z, hd, xs, rel, dd⟩ := dt_rd I.hok e
    refine wpAny_notIn_heap (tupleKind_room_in1 hu) (key_of I.hok eb) hd dd ?_
    have q := (rel.val k).isSome_eq
    rw [Option.isSome_map] at q
    rw [← q, ← l]
    exact h _ (I.tok _)
/-- a dict's object is replaced -/
theorem d_write {h' : Heap} {t' : Nat} {ob : HO} (I : Inv X pins σ H s) (mu : Mut (H a)) (hs : Heap.SameBut a s.heap h') (he : ∃ q, h'.get? a = some q) (new : ObjOk X.prog X.w (upd H a ob) h' a ob) :
    Inv X pins σ (upd H a ob) { s with heap := h', toks := t' } :=
  I.write (x := a) (e := a) mu (.inl rfl) (fun b q hb z => (hs.2 b hb).trans z) he new
theorem dk_new {P : Program} {w : World} {H' : Hp} {h' : Heap} {kvs : List (Key × V)} {vs : List (Key × Value)} (z : kvs.length ≤ sizeLine) (hd : (a == sysModules) = false) (rel : KV kvs vs) (dd : h'.DictOf (mixKind P w) a vs) :
    ObjOk P w H' h' a (.dK kvs) := ⟨z, hd, vs, rel, dd⟩
/-- d[y] = v -/
theorem d_setItem {H' : Hp} {Q : Unit → Shared → Prop} (hu : A.units + 1 < cLine) (I : Inv X pins σ H s) (g : DPut H a y v H') (ry : RelV y u) (rv : RelV v r) (h : ∀ s', Inv X pins σ H' s' → Q () s') :
    wpAny (model X.prog X.w) A (setItem (.ref a) u r) Q E s := by
  rcases g with ⟨kvs, k, e, ey, l, eH⟩ | ⟨kvs, k, b, e, ey, eb, l, eH⟩
  · subst ey eH
    obtain ⟨z, hd, vs, rel, dd⟩ := dk_of I.hok e
    have hz : vs.length ≤ sizeLine := by rw [← rel.length]; exact z
    have hl : (putK kvs k v).length ≤ sizeLine := by have := length_putK kvs k v; (first | lia | omega)
    refine wpAny_setItem_pairs (hsz := hz) (kV_is ry) dd fun h' dd' hs => h _ ?_
    have he : ∃ q, h'.get? a = some q := let ⟨q, _, _, hq, _⟩ := dd'; ⟨q, hq⟩
    exact d_write I (by rw [e]; exact True.intro) hs he (dk_new hl hd (rel.put k rv) dd')
  · subst ey eH
    cases (show u = Value.ref b from ry)
    obtain ⟨z, hd, xs, rel, dd⟩ := dt_of I.hok e
    have hz : xs.length ≤ sizeLine := by rw [← Paired.length rel]; exact z
    have hl : (putK kvs k v).length ≤ sizeLine := by have := length_putK kvs k v; (first | lia | omega)
    refine wpAny_setItem_heap (hsz := hz) (tupleKind_room_in1 hu) (key_of I.hok eb) dd fun h' dd' hs => h _ ?_
    obtain ⟨q, es, ep, hq, h2, h3, h4, _, h5⟩ := dd'
    refine d_write I (by rw [e]; exact True.intro) hs ⟨q, hq⟩ ⟨hl, hd, _, (rel.put k eb rv).keeps fun c ys ec => ?_, q, es, ep, hq, h2, h3, h4, h5⟩
    rw [upd_ne (ne_of ec e (fun z => nomatch z))]
    exact ec
end

section
variable {X : Cx} {pins : List (Addr × Obj)} {σ : St} {H : Hp} {s : Shared} {a : Addr} {kvs : List (Key × V)} {k : Key} {u : Value} {A : Around} {E : Value → Shared → Prop}
end


/-! ### readings and rules -/
/-- the element of a subscription, not a slice -/
def NoSl (i : Expr) : Prop := ∀ ov iv, subscripted i false ov iv = operate [ov, iv] (getItem ov iv)
theorem subD_of {prog : Program} {w : World} {A : Around} {E : Value → Shared → Prop} {s : Shared} {env : Env} {value slice : Expr} {pos : Pos} {T id : String} {Q : Value → Shared → Prop}
    (hl : typeLookup (.type T) "__getitem__" = pure (some (.builtin id))) (hs : NoSl slice)
    (h : wpAny (model prog w) A (eval value env) (fun o s₁ => wpAny (model prog w) A (eval slice env) (fun i s₂ => s₂.TypeIs o T ∧ wpAny (model prog w) A (getItem o i) Q E s₂) E s₁) E s) :
    wpAny (model prog w) A (eval (.Subscript value slice pos) env) Q E s := by
  refine Subscript_ (wpAny_mono h (fun o s₁ h₁ => wpAny_mono h₁ (fun i s₂ h₂ => ?_) fun _ _ x => x) fun _ _ x => x)
  obtain ⟨hT, h₂⟩ := h₂
  unfold subscriptTail
  refine wpAny_bind ?_
  rw [getitemInPython_of_ne hT.not_modules]
  refine wpAny_bind (wpAny_specialOf hT hl ?_)
  have fin : wpAny (model prog w) A (subscripted slice false o i) (fun r s₃ => wpAny (model prog w) A (letTemporaryGo value o r >>= fun _ => pure r) Q E s₃) E s₂ := by
    rw [hs o i]
    exact wpAny_operating (wpAny_mono h₂ (fun r s₃ h₃ => wpAny_bind (wpAny_letTemporaryGo (wpAny_pure h₃))) fun _ _ x => x)
  first
    | exact wpAny_pure (wpAny_bind fin)
    | exact wpAny_bind (wpAny_pure (wpAny_bind fin))
    | exact wpAny_bind fin

theorem dict_typeIs {X : Cx} {pins : List (Addr × Obj)} {σ : St} {H : Hp} {s : Shared} {a : Addr} {y : V} {o : Option V} (I : Inv X pins σ H s) (g : DGet H a y o) : s.TypeIs (.ref a) "dict" := by
  rcases g with ⟨kvs, k, e, _, _⟩ | ⟨kvs, k, b, e, _, _, _⟩
  · obtain ⟨_, _, vs, _, dd⟩ := dk_rd I.hok e
    exact dd.typeIs
  · obtain ⟨_, _, xs, _, dd⟩ := dt_rd I.hok e
    exact dd.typeIs
/-- d[y] -/
def tDGet (td ty : TE) : TE := fun σ H Q => td σ H fun x H1 => ty σ H1 fun y H2 => ∃ a v, x = .ref a ∧ DGet H2 a y (some v) ∧ Q v H2
/-- y in d, y not in d -/
def tDIn (ty td : TE) : TE := fun σ H Q => ty σ H fun y H1 => td σ H1 fun x H2 => ∃ a o, x = .ref a ∧ DGet H2 a y o ∧ Q (.bl o.isSome) H2
def tDNotIn (ty td : TE) : TE := fun σ H Q => ty σ H fun y H1 => td σ H1 fun x H2 => ∃ a o, x = .ref a ∧ DGet H2 a y o ∧ Q (.bl (!o.isSome)) H2
/-- d[y] = v -/
def sDPut (td ty tv : TE) : TS := fun D σ H => tv σ H fun v H1 => td σ H1 fun x H2 => ty σ H2 fun y H3 => ∃ a H4, x = .ref a ∧ DPut H3 a y v H4 ∧ D.nx σ H4
section
variable {X : Cx} {o i e value : Expr} {pos pos' tpos : Pos} {td ty tv : TE}
theorem pe_dget (hu : X.A.units + 1 < cLine) (ho : PE X o td) (hi : PE X i ty) (hs : NoSl i) : PE X (.Subscript o i pos) (tDGet td ty) := by
  intro pins s σ H Q I h
  refine subD_of PySem.F.slot_dict_getitem.lookup hs (thn (ho pins s σ H _ I h) fun u s1 ⟨x, H1, I1, rx, q1⟩ => thn (hi pins s1 σ H1 _ I1 q1) fun iv s2 ⟨y, H2, I2, ry, a, v, ex, g, q2⟩ => ?_)
  subst ex
  obtain rfl : u = Value.ref a := rx
  exact ⟨dict_typeIs I2 g, d_getItem hu I2 g ry fun w' s3 I3 rw' => ⟨v, H2, I3, rw', q2⟩⟩
theorem pc_din (hu : X.A.units + 1 < cLine) (hi : PE X i ty) (ho : PE X o td) : PC X .In i o (tDIn ty td) := by
  intro pins s σ H Q I h
  refine thn (hi pins s σ H _ I h) fun iv s1 ⟨y, H1, I1, ry, q1⟩ => thn (ho pins s1 σ H1 _ I1 q1) fun u s2 ⟨x, H2, I2, rx, a, ov, ex, g, q2⟩ => ?_
  subst ex
  obtain rfl : u = Value.ref a := rx
  exact d_in hu I2 g ry fun s3 I3 => ⟨.bl ov.isSome, H2, I3, rfl, q2⟩
theorem pc_dnotin (hu : X.A.units + 1 < cLine) (hi : PE X i ty) (ho : PE X o td) : PC X .NotIn i o (tDNotIn ty td) := by
  intro pins s σ H Q I h
  refine thn (hi pins s σ H _ I h) fun iv s1 ⟨y, H1, I1, ry, q1⟩ => thn (ho pins s1 σ H1 _ I1 q1) fun u s2 ⟨x, H2, I2, rx, a, ov, ex, g, q2⟩ => ?_
  subst ex
  obtain rfl : u = Value.ref a := rx
  exact d_notIn hu I2 g ry fun s3 I3 => ⟨.bl (!ov.isSome), H2, I3, rfl, q2⟩
theorem ps_dput (hu : X.A.units + 1 < cLine) (ho : PE X o td) (hi : PE X i ty) (hv : PE X value tv) (hs : swapsWith value (some (.Subscript o i pos')) pos.line X.env = pure false) :
    PS X (.Assign [.Subscript o i pos'] value pos) (sDPut td ty tv) := by
  intro pins s σ H D I h
  refine wpAny_Assign_Subscript (thn (hv pins s σ H _ I h) fun r s1 ⟨v, H1, I1, rv, q1⟩ => thn (ho pins s1 σ H1 _ I1 q1) fun u s2 ⟨x, H2, I2, rx, q2⟩ => thn (hi pins s2 σ H2 _ I2 q2) fun iv s3 ⟨y, H3, I3, ry, a, H4, ex, g, q3⟩ => ?_) hs
  subst ex
  obtain rfl : u = Value.ref a := rx
  exact d_setItem hu I3 g ry rv fun s4 I4 => ⟨σ, H4, I4, q3⟩
end


/-! ### displays -/
theorem dt_empty {P : Program} {w : World} {H : Hp} (h : Heap) (hb : sysModules < h.objs.size) : ObjOk P w H (h.push { cls := .type "dict", data := .dict #[] }) h.objs.size (.dT []) :=
  ⟨Nat.zero_le _, beq_eq_false_iff_ne.mpr (Ne.symm (Nat.ne_of_lt hb)), [], .nil, _, #[], 0, Heap.get?_push_size _ rfl, ⟨rfl, rfl, rfl⟩, rfl, rfl, List.nodup_nil⟩
def tDNewT : TE := fun _ H Q => ∀ p, H p = none → Q (.ref p) (upd H p (.dT []))
section
variable {X : Cx} {pos : Pos}
theorem pe_dnewT : PE X (.Dict [] [] pos) tDNewT := fun pins s σ H Q I h =>
  wpAny_Dict_empty ⟨.ref s.heap.objs.size, _, I.laid (a := s.heap.objs.size) (o := .dT []) (t' := s.toks) (fun _ _ q => Heap.get?_push_of_some _ q) (Nat.le_refl _) (dt_empty s.heap I.big), rfl, h _ (I.hok.fresh (Nat.le_refl _))⟩
end

/-! ### methods -/
/-- a method call o.m(e) of a built-in, with one argument: what must be seen of the text -/
structure M1 (X : Cx) (o : Expr) (m : Str) (apos : Pos) (e : Expr) (cpos : Pos) : Prop where
  base : attributeBase o m X.env (eval o X.env) = eval o X.env
  few : ((backTo cpos (starEach [e] X.env)).all (fun x => !x.1) && (backToKw cpos (keywordEach [] X.env)).all (fun x => x.1.isSome)
    && decide (([e] : List Expr).length + ([] : List Keyword).length + (if ([] : List Keyword).isEmpty then 0 else 1) < 30)) = true
  line : (apos.endLine == cpos.line) = true
  trees : backTo cpos (starEach [e] X.env) = [(false, eval e X.env)]
structure M2 (X : Cx) (o : Expr) (m : Str) (apos : Pos) (e f : Expr) (cpos : Pos) : Prop where
  base : attributeBase o m X.env (eval o X.env) = eval o X.env
  few : ((backTo cpos (starEach [e, f] X.env)).all (fun x => !x.1) && (backToKw cpos (keywordEach [] X.env)).all (fun x => x.1.isSome)
    && decide (([e, f] : List Expr).length + ([] : List Keyword).length + (if ([] : List Keyword).isEmpty then 0 else 1) < 30)) = true
  line : (apos.endLine == cpos.line) = true
  trees : backTo cpos (starEach [e, f] X.env) = [(false, eval e X.env), (false, eval f X.env)]

/-- a is a dict, whatever its keys -/
def IsD (H : Hp) (a : Addr) : Prop := (∃ kvs, Rd H a (.dK kvs)) ∨ ∃ kvs, Rd H a (.dT kvs)
theorem isD_at {X : Cx} {pins : List (Addr × Obj)} {σ : St} {H : Hp} {s : Shared} {a : Addr} (I : Inv X pins σ H s) (d : IsD H a) :
    s.TypeIs (.ref a) "dict" ∧ (∀ b, Value.ref a = .ref b → ∃ ob, s.heap.get? b = some ob ∧ ob.dict = none) ∧ (a == sysModules) = false := by
  rcases d with ⟨kvs, e⟩ | ⟨kvs, e⟩
  · obtain ⟨_, hd, vs, _, dd⟩ := dk_rd I.hok e
    refine ⟨dd.typeIs, fun b q => ?_, hd⟩
    cases q
    obtain ⟨ob, _, _, h1, h2, _⟩ := dd
    exact ⟨ob, h1, h2.2.1⟩
  · obtain ⟨_, hd, xs, _, dd⟩ := dt_rd I.hok e
    refine ⟨dd.typeIs, fun b q => ?_, hd⟩
    cases q
    obtain ⟨ob, _, _, h1, h2, _⟩ := dd
    exact ⟨ob, h1, h2.2.1⟩

section
variable {X : Cx} {pins : List (Addr × Obj)} {σ : St} {H : Hp} {s : Shared} {a : Addr} {y d : V} {u r : Value} {o : Option V} {A : Around} {E : Value → Shared → Prop}
/-- d.get(y) -/
theorem d_get1 {Q : Value → Shared → Prop} (hu : A.units + 1 < cLine) (I : Inv X pins σ H s) (g : DGet H a y o) (ry : RelV y u) (h : ∀ w' s', Inv X pins σ H s' → RelV (o.getD .non) w' → Q w' s') :
    wpAny (model X.prog X.w) A (call (.builtin "dict.get") [.ref a, u]) Q E s := by
  rcases g with ⟨kvs, k, e, ey, l⟩ | ⟨kvs, k, b, e, ey, eb, l⟩
  · subst ey
    obtain ⟨z, hd, vs, rel, dd⟩ := dk_rd I.hok e
    refine call_meetsIn PySem.F.slot_dict_get dd.typeIs PySem.F.entry_dict_get (PySem.F.args_dict_get_2 _ _) (meets_dict_get (mixKind X.prog X.w) a (kV_is ry) hd) ⟨_, dd.mapOf, h _ _ (I.tok _) ?_⟩
    rw [l]
    exact (rel.val k).getD rfl
  · subst ey
    cases (show u = Value.ref b from ry)
    obtain ⟨z, hd, xs, rel, dd⟩ := dt_rd I.hok e
    refine call_meetsIn PySem.F.slot_dict_get dd.typeIs PySem.F.entry_dict_get (PySem.F.args_dict_get_2 _ _) (meetsH_dict_get (tupleKind (mixKind X.prog X.w)) a b hd) ⟨tupleKind_room_in1 hu, k, xs, key_of I.hok eb, dd, h _ _ (I.tok _) ?_⟩
    rw [l]
    exact (rel.val k).getD rfl
/-- d.get(y, x) -/
theorem d_get2 {Q : Value → Shared → Prop} (hu : A.units + 1 < cLine) (I : Inv X pins σ H s) (g : DGet H a y o) (ry : RelV y u) (rd : RelV d r) (h : ∀ w' s', Inv X pins σ H s' → RelV (o.getD d) w' → Q w' s') :
    wpAny (model X.prog X.w) A (call (.builtin "dict.get") [.ref a, u, r]) Q E s := by
  rcases g with ⟨kvs, k, e, ey, l⟩ | ⟨kvs, k, b, e, ey, eb, l⟩
  · subst ey
    obtain ⟨z, hd, vs, rel, dd⟩ := dk_rd I.hok e
    refine call_meetsIn PySem.F.slot_dict_get dd.typeIs PySem.F.entry_dict_get (PySem.F.args_dict_get_3 _ _ _) (meets_dict_get_default (mixKind X.prog X.w) a (kV_is ry) hd r) ⟨_, dd.mapOf, h _ _ (I.tok _) ?_⟩
    rw [l]
    exact (rel.val k).getD rd
  · subst ey
    cases (show u = Value.ref b from ry)
    obtain ⟨z, hd, xs, rel, dd⟩ := dt_rd I.hok e
    refine call_meetsIn PySem.F.slot_dict_get dd.typeIs PySem.F.entry_dict_get (PySem.F.args_dict_get_3 _ _ _) (meetsH_dict_get_default (tupleKind (mixKind X.prog X.w)) a b hd r) ⟨tupleKind_room_in1 hu, k, xs, key_of I.hok eb, dd, h _ _ (I.tok _) ?_⟩
    rw [l]
    exact (rel.val k).getD rd
end

def tDGet1 (td ty : TE) : TE := fun σ H Q => td σ H fun x H1 => ∃ a, x = .ref a ∧ IsD H1 a ∧ ty σ H1 fun y H2 => ∃ o, DGet H2 a y o ∧ Q (o.getD .non) H2
def tDGet2 (td ty tx : TE) : TE := fun σ H Q => td σ H fun x H1 => ∃ a, x = .ref a ∧ IsD H1 a ∧ ty σ H1 fun y H2 => tx σ H2 fun z H3 => ∃ o, DGet H3 a y o ∧ Q (o.getD z) H3
section
variable {X : Cx} {o e f : Expr} {apos cpos : Pos} {td ty tx : TE}
theorem pe_dget1 (hu : X.A.units + 1 < cLine) (ho : PE X o td) (he : PE X e ty) (m : M1 X o "get" apos e cpos) : PE X (.Call (.Attribute o "get" apos) [e] [] cpos) (tDGet1 td ty) := by
  intro pins s σ H Q I h
  refine wpAny_Call_method m.base m.few m.line PySem.F.plainAttrs_dict PySem.F.slot_dict_get PySem.F.type_dict_get (thn (ho pins s σ H _ I h) fun u s1 ⟨x, H1, I1, rx, a, ex, d, q1⟩ => ?_)
  subst ex
  obtain rfl : u = Value.ref a := rx
  obtain ⟨t1, t2, _⟩ := isD_at I1 d
  refine ⟨t1, t2, ?_⟩
  rw [m.trees]
  refine Calls.callWith_builtin rfl (Calls.evalArgs_plain (Calls.spliced_cons (thn (he pins s1 σ H1 _ I1 q1) fun iv s2 ⟨y, H2, I2, ry, ov, g, q2⟩ => Calls.spliced_nil ?_)))
  exact d_get1 hu I2 g ry fun w' s3 I3 rw' => ⟨_, H2, I3, rw', q2⟩
theorem pe_dget2 (hu : X.A.units + 1 < cLine) (ho : PE X o td) (he : PE X e ty) (hf : PE X f tx) (m : M2 X o "get" apos e f cpos) : PE X (.Call (.Attribute o "get" apos) [e, f] [] cpos) (tDGet2 td ty tx) := by
  intro pins s σ H Q I h
  refine wpAny_Call_method m.base m.few m.line PySem.F.plainAttrs_dict PySem.F.slot_dict_get PySem.F.type_dict_get (thn (ho pins s σ H _ I h) fun u s1 ⟨x, H1, I1, rx, a, ex, d, q1⟩ => ?_)
  subst ex
  obtain rfl : u = Value.ref a := rx
  obtain ⟨t1, t2, _⟩ := isD_at I1 d
  refine ⟨t1, t2, ?_⟩
  rw [m.trees]
  refine Calls.callWith_builtin rfl (Calls.evalArgs_plain (Calls.spliced_cons (thn (he pins s1 σ H1 _ I1 q1) fun iv s2 ⟨y, H2, I2, ry, q2⟩ =>
    Calls.spliced_cons (thn (hf pins s2 σ H2 _ I2 q2) fun fv s3 ⟨z, H3, I3, rz, ov, g, q3⟩ => Calls.spliced_nil ?_))))
  exact d_get2 hu I3 g ry rz fun w' s4 I4 rw' => ⟨_, H3, I4, rw', q3⟩
end

/-! ### dict(d): a copy -/
section
variable {X : Cx} {pins : List (Addr × Obj)} {σ : St} {H : Hp} {s : Shared} {a : Addr} {kvs : List (Key × V)} {A : Around} {E : Value → Shared → Prop}
end


section
variable {X : Cx} {pins : List (Addr × Obj)} {σ : St} {H : Hp} {s : Shared} {a : Addr} {y : V} {u : Value} {A : Around} {E : Value → Shared → Prop}
end
end L2

namespace Att
open PySem PySem.W PySem.Calls PyProof.Rows

/-! ### the script -/
theorem ints_of_wellAll {P : Params} {h : Heap} : ∀ (ns : List Int) (vs : List Value), WellAll P h vs (ns.map WData.int) → IntsAre vs ns := by
  intro ns
  induction ns with
  | nil =>
    intro vs w
    rw [List.map_nil] at w
    cases w
    exact .nil
  | cons n ns ih =>
    intro vs w
    rw [List.map_cons] at w
    cases w with
    | cons a b =>
      cases a
      exact .cons _ _ (ih _ b)

theorem script_of {l : OpenLaw} {n : Nat} (hn : l.most = some n) {P : Params} {h : Heap} {args : List WData} {vals : List Value}
    (hpre : l.row.toRowW.claim.pre args = true) (hwl : WellAll P h vals args) :
    ∃ a vs ns, vals = [Value.ref a] ∧ args = [WData.list (ns.map WData.int)] ∧ h.get? a = some { cls := .type "list", data := .seq vs.toArray } ∧ IntsAre vs ns ∧ ns.length ≤ n := by
  have hsh : WShape.hasAll [] args [.list .int] = true := (pre_splitW hpre).1
  have hc : l.pre.holds [] { args := args } = true := (pre_splitW hpre).2
  obtain ⟨d, r, rfl, h1, h2⟩ := hasAllW_cons hsh
  obtain rfl := hasAllW_nil h2
  obtain ⟨xs, rfl, h3⟩ := hasW_list h1
  obtain ⟨ns, rfl⟩ := items_int h3
  have hlen : ns.length ≤ n := by
    unfold OpenLaw.pre at hc
    have h4 : (WTm.not (.lt (.lit (.int (n : Int))) (.len (.arg 0)))).holds [] { args := [.list (ns.map .int)] } = true := by
      have h4 := (holds_andW hc).1
      rw [hn] at h4
      exact h4
    have h5 := condW_of h4 (w_not (w_lt w_lit (w_len_list (w_arg rfl))))
    rw [List.length_map] at h5
    refine Nat.le_of_not_lt fun q => ?_
    have q' : (n : Int) < ((ns.length : Nat) : Int) := by (first | lia | omega)
    first
      | (rw [decide_eq_true q'] at h5; exact absurd h5 (by decide))
      | (simp at h5; (first | lia | omega))
  cases hwl with
  | cons w1 w2 =>
    cases w2
    cases w1 with
    | list ho hall => exact ⟨_, _, ns, rfl, rfl, ho, ints_of_wellAll ns _ hall, hlen⟩

theorem post_true (l : OpenLaw) (args : List WData) : l.row.toRowW.claim.post args (.bool true) args = true :=
  postW_of (r := l.row.toRowW) (X := (true == true))
    (show WShape.has [] (.bool true) .bool = true by first | rfl | decide | simp [WShape.has, WShape.arms, WShape.armsAll])
    (show (WTm.eq .res (.lit (.bool true))).value [] { args := args, res := some (.bool true), after := args } = some (.bool (true == true)) from w_eq_bool (w_res rfl) w_lit) rfl

/-! ### the attachment: holds_open's last premise (the goal 'hc' behind k_head) from a wpAny of the law's body -/
/-- the same from a codeAny of the CALL (for a layer whose function contracts speak of calls) -/
theorem attach_call {l : OpenLaw} {n : Nat} {q : Program} {loose : List Str} {XP : (Str → Option Value) → Heap → Prop} {YP : World → Heap → Prop} {d : DefRec}
    (hn : l.most = some n) (hdf : d.params.defaults = [])
    (call : ∀ (w : World) (s₀ s₁ : Shared) (mg mb : Str → Option Value) (fa : Addr) (o : Obj) (pm cd doc : Value) (a : Addr) (vs : List Value) (ns : List Int),
      Ground q loose [] XP w s₀ mg mb s₁.heap → YP w s₁.heap →
      s₁.heap.get? fa = some o → o.data = .func (docDef d.name d.params d.body d.scope pm cd doc) → s₁.heap.CodeRec cd d.name → mg d.name = some (.ref fa) →
      s₁.heap.get? a = some { cls := .type "list", data := .seq vs.toArray } → IntsAre vs ns → ns.length ≤ n → s₁.gens = #[] →
      codeAny (model l.prog w) callerA (.call (.ref fa) ⟨[.ref a], []⟩) (fun r s' => r = .ok (.ret (.bool true)) ∧ OldK s₁.heap s'.heap ∧ s'.os = s₁.os ∧ AllBare s'.gens) s₁) :
    WalkO q loose XP YP l.row.toRowW d [] (fun f vs => PySem.call f vs) := by
  intro w s₀ s₁ mg mb G Y fa o pm cd doc dV kV ho hd hcd hD hmg hg args vals as hpre hlay hrd hwl hlo
  obtain rfl : dV = .none := Dflts.none hD hdf
  obtain rfl : kV = .none := Dflts.noKw hD
  obtain ⟨a, vs, ns, rfl, rfl, hobj, hints, hlen⟩ := script_of hn hpre hwl
  refine enter_call (codeAny_mono (call w s₀ s₁ mg mb fa o pm cd doc a vs ns G Y ho (fd_plain hd) hcd hmg hobj hints hlen hg) fun r s' hq => ?_)
  obtain ⟨rfl, h2, h3, h4⟩ := hq
  exact ⟨.inl ⟨.bool true, .bool true, [], rfl, fun _ => rfl, .bool true, post_true l _, fun _ => ⟨List.Pairwise.nil, fun _ hm => (nomatch hm)⟩⟩, h2, h3, h4⟩

/-! ### rules over ANY heap (no ledger) from facts about the written part K: the library's own take a ledger (News) for what they write -/
section
variable {prog : Program} {w : World} {A : Around} {E : Value → Shared → Prop} {s : Shared} {K : Frag}

/-! the whole heap as the ledger: makes every rule that writes through a ledger a rule over any heap -/
def ledger (h : Heap) (L d : Addr) : List (Addr × Obj) := (List.range h.objs.size).filterMap fun a => if a = L ∨ a = d then none else (h.get? a).map fun o => (a, o)
end
end Att

namespace L2
open PySem PySem.Spec PyProof.Rows

theorem vals_ints : ∀ {vs : List Value} {ns : List Int}, IntsAre vs ns → Vals (ns.map V.int) vs
  | _, _, .nil => .nil
  | _, _, .cons n t h => .cons ⟨t, rfl⟩ (vals_ints h)

/-- nothing is tracked but the script, known to the object (or it is an object of the module) -/
def Only (H : Hp) : Prop := ∀ b, H b = none ∨ ∃ o xs, H b = some (.frz o (.lst xs))

/-- THE HEAD: the law's promise, at the heap behind the top. F, the promise of the law's def, may use that base is part of the heap (so K.In base, base.Ns mainGlobals mg stand in Mod) -/
theorem law_call {P : Program} {w : World} {K : PySem.W.Frag} {mg mb : Str → Option Value} {CX : CXT} {k : Nat} {fa a : Addr} {fd : FuncData} {x : Str} {sp : Sp} {s₁ : Shared} {vs : List Value} {ns : List Int}
    (KX : K.In s₁.heap) (hns : s₁.heap.Ns mainGlobals mg) (hb : s₁.heap.Ns builtinsNs mb) (hbb : ∀ x : Str, x ≠ "__name__" → mb x = bootBuiltins x) (hlim : s₁.heap.NoLimit) (hg : s₁.gens = #[])
    (ha : s₁.heap.get? a = some { cls := .type "list", data := .seq vs.toArray }) (hi : IntsAre vs ns) (hl : ns.length ≤ sizeLine) (hr : Room k callerA)
    (F : ∀ base : Heap, K.In base → base.Ns mainGlobals mg → FnOk P w K mg base CX k fa fd [x] sp) (hbind : ∀ (s : Shared) (u : Value), BindsTo s fd ⟨[u], []⟩ [(x, u)])
    (hsp : ∀ H : Hp, Only H → SqL K H a (ns.map V.int) → sp [.ref a] H (fun v _ => v = .bl true) fun _ _ _ => False)
    (hCX : ∀ H e s', CX [] H s₁ (fun _ _ _ => False) e s' → False) :
    codeAny (model P w) callerA (.call (.ref fa) ⟨[.ref a], []⟩) (fun r s' => r = .ok (.ret (.bool true)) ∧ OldK s₁.heap s'.heap ∧ s'.os = s₁.os ∧ AllBare s'.gens) s₁ := by
  have rv := vals_ints hi
  have lenV := hi.length
  -- from an abstract heap in which nothing but the script may be tracked
  have core : ∀ H : Hp, Only H → SqL K H a (ns.map V.int) → HOk P w H s₁.heap → (∀ b, H b ≠ none → b = a) → (H a ≠ none → K.lookup a = none) →
      codeAny (model P w) callerA (.call (.ref fa) ⟨[.ref a], []⟩) (fun r s' => r = .ok (.ret (.bool true)) ∧ OldK s₁.heap s'.heap ∧ s'.os = s₁.os ∧ AllBare s'.gens) s₁ := by
    intro H hO hS hok hA hK
    have base_of : ∀ {b : Addr} {o : Obj}, s₁.heap.get? b = some o → H b = none → (hidT s₁.heap H).get? b = some o := fun e n => hidT_get e n
    have noA : ∀ {b : Addr} {o : Obj} {es : Array DictEntry} {ep : Nat}, s₁.heap.get? b = some o → o.data = .dict es ep → H b = none := fun {b o es ep} e d => by
      cases q : H b with
      | none => rfl
      | some u =>
        have e' : b = a := hA b (by rw [q]; simp)
        subst e'
        rw [ha] at e; cases e
        have d' : Data.seq vs.toArray _ = Data.dict es ep := d
        cases d'
    have nsK : ∀ {b : Addr} {m : Str → Option Value}, s₁.heap.Ns b m → (hidT s₁.heap H).Ns b m := fun {b m} ⟨o, es, ep, e, d, r⟩ => ⟨o, es, ep, base_of e (noA e d), d, r⟩
    have hKb : K.In (hidT s₁.heap H) := fun b o e => base_of (KX b o e) (by
      cases q : H b with
      | none => rfl
      | some u =>
        have e' : b = a := hA b (by rw [q]; simp)
        subst e'
        rw [hK (by rw [q]; simp)] at e; cases e)
    have hM : Mod K mg (hidT s₁.heap H) := ⟨hKb, nsK hns, ⟨mb, nsK hb, hbb⟩, let ⟨mc, h1, h2⟩ := hlim; ⟨mc, nsK h1, h2⟩⟩
    have e0 : Env0 P w K mg (hidT s₁.heap H) callerA [] s₁ H := ⟨rfl, hM, fun b o e => of_hidT e, Nat.le_of_eq (hidT_size _ _), trivial, fun b hb => absurd (show b ∈ ([] : List Addr) from hb) (by simp), hok, .of_eq hg⟩
    refine codeAny_mono ((F _ hKb (nsK hns)).run callerA [] s₁ H ⟨[.ref a], []⟩ [.ref a] [.ref a] _ _ hr e0 (hbind s₁ (.ref a)) (.cons rfl .nil) (hsp H hO hS)) fun r s' h => ?_
    cases r with
    | error e => exact (hCX H e s' h).elim
    | ok fl =>
      cases fl with
      | next => exact False.elim h
      | brk => exact False.elim h
      | cont => exact False.elim h
      | ret u =>
        obtain ⟨v, H', os, bare, un, hok', r', q⟩ := h
        have q' : v = .bl true := q
        subst q'
        obtain rfl : u = Value.bool true := r'
        refine ⟨rfl, OldK.of_keep fun b o e => ?_, os, bare⟩
        cases q : H b with
        | none => exact un.keep b o e q (by intro z; exact absurd (show b ∈ ([] : List Addr) from z) (by simp)) (by simp)
        | some u =>
          rcases hO b with z | ⟨ob, xs, z⟩
          · rw [q] at z; cases z
          · have z2 := un.frzs b ob _ z
            obtain ⟨e1, _⟩ := hok b _ z
            obtain ⟨e2, _⟩ := hok' b _ z2
            rw [e] at e1; cases e1
            exact e2
  cases hk : K.lookup a with
  | some o =>
    -- the script is one of the module's own objects
    have e := KX a o hk
    rw [ha] at e
    cases e
    refine core (fun _ => none) (fun _ => .inl rfl) (.inr ⟨_, vs.toArray, _, hk, rfl, rfl, rfl, by rw [List.size_toArray, lenV]; exact hl, by simpa using rv⟩) (fun b u z => by have z' : (none : Option HO) = some u := z; cases z') (fun b z => absurd rfl z) fun z => absurd rfl z
  | none =>
    refine core (fun b => if b = a then some (.frz { cls := .type "list", data := .seq vs.toArray } (.lst (ns.map V.int))) else none) (fun b => ?_) (.inl (.inr ⟨{ cls := .type "list", data := .seq vs.toArray }, if_pos rfl⟩)) (fun b u z => ?_) (fun b z => ?_) fun _ => hk
    · by_cases hb : b = a
      · exact .inr ⟨_, _, if_pos hb⟩
      · exact .inl (if_neg hb)
    · by_cases hb : b = a
      · have z' := (if_pos hb).symm.trans z
        cases z'
        subst hb
        exact ⟨ha, by rw [List.length_map]; exact hl, vs, _, rv, ha⟩
      · have z' := (if_neg hb).symm.trans z
        cases z'
    · by_cases hb : b = a
      · exact hb
      · exact absurd (if_neg hb) z
end L2

namespace L2
open PySem PySem.Spec PyProof.Rows

/-- the goal that k_head leaves (case hc), from the law's promise. F gives the function object fd (K's own) once, then the promise over every base -/
theorem walk_of {l : PySem.W.OpenLaw} {n k : Nat} {q : Program} {loose : List Str} {XP : (Str → Option Value) → Heap → Prop} {YP : World → Heap → Prop} {d : DefRec} {K : Params → PySem.W.Frag} {CX : World → CXT} {sp : World → Sp} {x : Str}
    (hn : l.most = some n) (hn2 : n ≤ sizeLine) (hdf : d.params.defaults = []) (hr : Room k callerA)
    (hY : ∀ (w : World) (h : Heap), YP w h → (K w.params).In h)
    (F : ∀ (w : World) (mg : Str → Option Value) (fa : Addr) (h : Heap), (K w.params).In h → h.Ns mainGlobals mg → mg d.name = some (.ref fa) →
      ∃ fd : FuncData, (∀ (s : Shared) (u : Value), BindsTo s fd ⟨[u], []⟩ [(x, u)]) ∧
        ∀ base : Heap, (K w.params).In base → base.Ns mainGlobals mg → FnOk l.prog w (K w.params) mg base (CX w) k fa fd [x] (sp w))
    (hsp : ∀ (w : World) (H : Hp) (a : Addr) (ns : List Int), ns.length ≤ n → Only H → SqL (K w.params) H a (ns.map V.int) → sp w [.ref a] H (fun v _ => v = .bl true) fun _ _ _ => False)
    (hCX : ∀ (w : World) (H : Hp) (s : Shared) (e : Value) (s' : Shared), CX w [] H s (fun _ _ _ => False) e s' → False) :
    PySem.W.WalkO q loose XP YP l.row.toRowW d [] (fun f vs => PySem.call f vs) := by
  refine Att.attach_call hn hdf fun w s₀ s₁ mg mb fa o pm cd doc a vs ns G Y ho hd hcd hmg hobj hints hlen hg => ?_
  have KX := hY w _ Y
  obtain ⟨fd, hb, hF⟩ := F w mg fa _ KX G.T.g hmg
  exact law_call KX G.T.g G.T.b G.T.builtins G.T.nolimit hg hobj hints (Nat.le_trans hlen hn2) hr hF hb (fun H hO hS => hsp w H a ns hlen hO hS) fun H e s' => hCX w H s₁ e s'
end L2

/- THE LAST THEOREM (shape; LID, My.* are yours):
   My.Adr: a structure of the addresses that your layer names (classes, functions); My.Txt K t: a structure (Prop) of the equations over K;
   My.txt_mk : {K} {implicit addresses ..} (e1 : nsIn K mainGlobals "law" = some (some (.ref f))) (e2 : K.lookup f = some ⟨oc, od, .func (fnOf "law" "law" params body scope dV kV doc pm an cdv ct), sl⟩) (e3 : codeIn K cdv "law" = true) .. : ∃ t, My.Txt K t

set_option maxRecDepth 100000 in
set_option maxHeartbeats 0 in
(the tactic k_is has no namespace: write k_is) -/

/-! SHORT WORDS over the layer: a def of the text, its body, what a loop and a test want. -/
namespace L2
open PySem PySem.Spec PyProof.Rows

/-! ### the text by places -/
def defArgs (s : Stmt) : Arguments := match s with
  | .FunctionDef _ a _ _ _ _ _ _ _ _ => a
  | _ => { posonlyargs := [], args := [], vararg := none, kwonlyargs := [], kw_defaults := [], kwarg := none, defaults := [] }
def defBody (s : Stmt) : List Stmt := match s with
  | .FunctionDef _ _ b _ _ _ _ _ _ _ => b
  | _ => []
def defScope (s : Stmt) : Scope := match s with
  | .FunctionDef _ _ _ _ _ _ sc _ _ _ => sc
  | _ => { kind := .function, names := [], isGenerator := false, isCoroutine := false }

/-! ### no exception leaves a def -/
abbrev CX0 : CXT := fun _ _ _ _ _ _ => False
abbrev E0 : XK := fun _ _ _ => False
theorem pass0 {X : Cx} : Passes CX0 X E0 := fun _ _ _ _ _ _ _ h => h.elim

/-! ### a def (or method) of the text as it stands behind the top -/
structure Fun (K : PySem.W.Frag) (x qual : Str) (st : Stmt) (f : Addr) (fd : FuncData) : Prop where
  ex : ∃ (oc : Value) (od : Option Addr) (kV doc pm : Value) (an : Option Addr) (cdv ct : Value) (osl : Array (Option Value)),
    fd = PySem.W.fnOf x qual (defArgs st) (defBody st) (defScope st) .none kV doc pm an cdv ct ∧ K.lookup f = some ⟨oc, od, .func fd, osl⟩ ∧ PySem.W.codeIn K cdv qual = true
  kp : PySem.W.keepIn K (.ref f) = true
section
variable {P : Program} {w : World} {K : PySem.W.Frag} {mg : Str → Option Value} {base : Heap}
/-- THE RULE for a def: its body as a term of rules, and the reading of that term -/
theorem Fun.ok {x qual : Str} {st : Stmt} {f : Addr} {fd : FuncData} {N ps : List Str} {k : Nat} {sp : Sp} (F : Fun K x qual st f fd) (S : FnScope N ps (defScope st)) (len : ∀ vs H Q E, sp vs H Q E → vs.length = ps.length)
    (hbody : ∀ (cdv : Value) (A : Around) (outer : List Env) (s : Shared) (H : Hp) (vs : List V) (Q : VK) (E : XK), Room k (A.deeper (envOfC qual (defScope st) s.heap.objs.size f cdv)) → sp vs H Q E →
      ∃ t, PSs (cxOf CX0 P w K mg base N qual (defScope st) f cdv A outer s H E).nox (defBody st) t ∧ t { nx := fun _ H' => Q .non H', rt := Q } (start N vs) H) : FnOk P w K mg base CX0 (k + 1) f fd ps sp := by
  obtain ⟨oc, od, kV, doc, pm, an, cdv, ct, osl, rfl, lk, hcd⟩ := F.ex
  refine fn_of lk hcd S len fun A outer s H vs Q E hr hsp => ?_
  obtain ⟨t, h, q⟩ := hbody cdv A outer s H vs Q E hr hsp
  exact ⟨t, h.nox, q⟩
/-- how its arguments bind (no defaults): h is «fun _ _ _ _ _ _ us hl => match us, hl with | [_, _], _ => rfl», one _ a parameter -/
theorem Fun.binds {x qual : Str} {st : Stmt} {f : Addr} {fd : FuncData} {ps : List Str} (F : Fun K x qual st f fd)
    (h : ∀ (kV doc pm : Value) (an : Option Addr) (cdv ct : Value) (us : List Value), us.length = ps.length → bindArgs (PySem.W.fnOf x qual (defArgs st) (defBody st) (defScope st) .none kV doc pm an cdv ct) ⟨us, []⟩ = pure (ps.zip us)) : Binds K fd ps [] := by
  obtain ⟨oc, od, kV, doc, pm, an, cdv, ct, osl, rfl, lk, hcd⟩ := F.ex
  exact .all (h kV doc pm an cdv ct)
theorem fun_mk {x qual : Str} {st : Stmt} {f : Addr} {oc : Value} {od an : Option Addr} {osl : Array (Option Value)} {kV doc pm cdv ct : Value} (l : K.lookup f = some ⟨oc, od, .func (PySem.W.fnOf x qual (defArgs st) (defBody st) (defScope st) .none kV doc pm an cdv ct), osl⟩)
    (c : PySem.W.codeIn K cdv qual = true) (k : PySem.W.keepIn K (.ref f) = true) : Fun K x qual st f (PySem.W.fnOf x qual (defArgs st) (defBody st) (defScope st) .none kV doc pm an cdv ct) := ⟨⟨oc, od, kV, doc, pm, an, cdv, ct, osl, rfl, l, c⟩, k⟩
end
theorem hu_of {A : Around} {k : Nat} (hr : Room k A) : A.units + 1 < cLine := Nat.lt_of_le_of_lt (Nat.add_le_add_left (by decide : 1 ≤ 64) _) hr.units
theorem small1000 {n : Nat} (h : n ≤ 1000) : n < sizeLine := Nat.lt_of_le_of_lt h (by decide)

/-! ### expressions in short: the name that stands in the i-th slot -/
section
variable {X : Cx}
theorem pv (i : Nat) {x : Str} {pos : Pos} (hN : X.N[i]? = some x := by rfl) (hv : Vis X.env.scope x := by first | exact Or.inl rfl | exact Or.inr (Or.inl rfl) | exact Or.inr (Or.inr rfl)) (hd : (x == ("__debug__" : Str)) = false := by decide)
    (hcd : (x == ("__classdict__" : Str)) = false := by decide) : PE X (.Name x pos) (tVar i) := pe_var hN hv hd hcd
end

/-! ### tests -/
theorem iteF {A B : Prop} (h : B) : if false = true then A else B := by
  rw [if_neg Bool.false_ne_true]
  exact h
theorem iteT {A B : Prop} (h : A) : if true = true then A else B := by
  rw [if_pos rfl]
  exact h
theorem ite2 {c A B : Prop} [Decidable c] (h1 : c → A) (h2 : ¬ c → B) : if c then A else B := by
  by_cases h : c
  · rw [if_pos h]
    exact h1 h
  · rw [if_neg h]
    exact h2 h
/-! ### heaps -/
/-- all that was tracked is as it was -/
def Same (H H' : Hp) : Prop := ∀ b o, H b = some o → H' b = some o
theorem Same.refl (H : Hp) : Same H H := fun _ _ h => h
theorem Same.trans {H H1 H2 : Hp} (a : Same H H1) (b : Same H1 H2) : Same H H2 := fun c o h => b c o (a c o h)
theorem Same.free {H H' : Hp} (e : Same H H') {l : Addr} (h : H' l = Option.none) : H l = Option.none := by
  cases q : H l with
  | none => rfl
  | some o =>
    rw [e l o q] at h
    cases h
/-! ### a dict's pairs: keys that differ -/
section
variable {κ : Type} [DecidableEq κ]
theorem valV_in {kvs : List (κ × V)} {k : κ} {v : V} (h : valV kvs k = some v) : k ∈ kvs.map (·.1) := by
  have q : (kvs.any fun kv => decide (kv.1 = k)) = true := by
    rw [valV_any, h]
    all_goals rfl
  obtain ⟨p, hp, e⟩ := List.any_eq_true.mp q
  exact List.mem_map.mpr ⟨p, hp, of_decide_eq_true e⟩
theorem nd_snoc : ∀ {l : List κ} {k : κ}, l.Nodup → ¬ k ∈ l → (l ++ [k]).Nodup
  | [], k, _, _ => by simp
  | a :: r, k, h, hk => by
    obtain ⟨h1, h2⟩ := List.nodup_cons.mp h
    show (a :: (r ++ [k])).Nodup
    refine List.nodup_cons.mpr ⟨fun m => ?_, nd_snoc h2 fun m => hk (List.mem_cons.mpr (Or.inr m))⟩
    rcases List.mem_append.mp m with q | q
    · exact h1 q
    · exact hk (List.mem_cons.mpr (Or.inl (List.mem_singleton.mp q).symm))
end
end L2

set_option linter.all false
namespace Fx
/-! ### the boards that the scripts draw -/
def atD (ns : List Int) (k : Nat) : Int := ns.getD k 0
structure Brd where
  n : Nat
  lanes : List (Int × Int)
  coops : List Int
def menuA : List Int := [2, 3, 4, 5, 1, 3, 7, 5]
def menuB : List Int := [2, 3, 4, 5, 1, 3, 4, 5]
def cntOf (menu : List Int) (ns : List Int) : Int := menu.getD (atD ns 0 % 8).toNat 0
def limOf (seed : Int) : Int := [1, 2, 3, 7].getD (seed % 4).toNat 0
def laneOf (n : Int) (x : Int) (k : Nat) : Int × Int := ((x / 7 + (k : Int)) % n, (x + (k : Int) / n) % n)
def stepL (n lim : Int) (ns : List Int) (st : List (Int × Int) × List Int) (k : Nat) : List (Int × Int) × List Int :=
  if laneOf n (atD ns k) k ∉ st.1 ∧ st.2.getD (laneOf n (atD ns k) k).1.toNat 0 < lim then
    (st.1 ++ [laneOf n (atD ns k) k], st.2.set (laneOf n (atD ns k) k).1.toNat (st.2.getD (laneOf n (atD ns k) k).1.toNat 0 + 1))
  else st
def runL (n lim : Int) (ns : List Int) : Nat → List (Int × Int) × List Int
  | 0 => ([], List.replicate n.toNat 0)
  | i + 1 => stepL n lim ns (runL n lim ns i) (i + 2)
def divs : List Int := [45, 90, 180, 360, 720, 1440, 2880]
def coopA (seed : Int) (y : Nat) : Bool := !decide (seed / 3 % 5 = 4) && decide ((seed / 3 + (y : Int)) % 4 = 1)
def coopB (seed : Int) (y : Nat) : Bool := decide (seed / divs.getD y 0 % 2 = 1)
def coopOf (seed : Int) (y : Nat) : Bool := if seed / 15 % 3 = 1 then coopB seed y else coopA seed y
def coopsUp (seed : Int) (n : Nat) : List Int := ((List.range n).filter (coopOf seed)).map Int.ofNat
def boardOf (menu : List Int) (ns : List Int) : Brd where
  n := (cntOf menu ns).toNat
  lanes := (runL (cntOf menu ns) (limOf (atD ns 1)) ns (ns.length - 2)).1
  coops := coopsUp (atD ns 1) (cntOf menu ns).toNat
theorem getD_mem {l : List Int} {i : Nat} (h : i < l.length) : l.getD i 0 ∈ l := by
  rw [List.getD_eq_getElem?_getD, List.getElem?_eq_getElem h]
  exact List.getElem_mem h
theorem mod_lt8 (x : Int) : (x % 8).toNat < 8 := by (first | lia | omega)
theorem cnt_mem {menu ns : List Int} (h : menu.length = 8) : cntOf menu ns ∈ menu := getD_mem (by rw [h]; exact mod_lt8 _)
theorem cnt_pos {menu ns : List Int} (h : menu = menuA ∨ menu = menuB) : 1 ≤ cntOf menu ns ∧ cntOf menu ns ≤ 7 := by
  have e : menu.length = 8 := by rcases h with rfl | rfl <;> rfl
  have m := cnt_mem (ns := ns) e
  generalize cntOf menu ns = c at m
  rcases h with rfl | rfl
  · simp [menuA] at m; (first | lia | omega)
  · simp [menuB] at m; (first | lia | omega)
theorem laneOf_in {n : Int} (hn : 1 ≤ n) (x : Int) (k : Nat) : (0 ≤ (laneOf n x k).1 ∧ (laneOf n x k).1 < n) ∧ 0 ≤ (laneOf n x k).2 ∧ (laneOf n x k).2 < n :=
  ⟨⟨Int.emod_nonneg _ (by (first | lia | omega)), Int.emod_lt_of_pos _ (by (first | lia | omega))⟩, Int.emod_nonneg _ (by (first | lia | omega)), Int.emod_lt_of_pos _ (by (first | lia | omega))⟩
structure GoodL (n : Int) (i : Nat) (st : List (Int × Int) × List Int) : Prop where
  len : st.1.length ≤ i
  outs : st.2.length = n.toNat
  dup : st.1.Nodup
  rng : ∀ l ∈ st.1, (0 ≤ l.1 ∧ l.1 < n) ∧ 0 ≤ l.2 ∧ l.2 < n
theorem runL_good {n lim : Int} {ns : List Int} (hn : 1 ≤ n) : ∀ i, GoodL n i (runL n lim ns i)
  | 0 => ⟨Nat.le_refl _, by simp [runL], List.nodup_nil, fun l h => nomatch h⟩
  | i + 1 => by
    have ih := runL_good (lim := lim) (ns := ns) hn i
    show GoodL n (i + 1) (stepL n lim ns (runL n lim ns i) (i + 2))
    unfold stepL
    split
    · rename_i h
      refine ⟨?_, ?_, ?_, ?_⟩
      · show (_ ++ [_]).length ≤ _
        rw [List.length_append]
        exact Nat.succ_le_succ ih.len
      · show (List.set _ _ _).length = _
        rw [List.length_set]
        exact ih.outs
      · show (_ ++ [_]).Nodup
        rw [List.nodup_append]
        refine ⟨ih.dup, by simp, ?_⟩
        intro a ha b hb e
        simp at hb
        subst e hb
        exact h.1 ha
      · intro l hl
        have hl : l ∈ _ ++ [_] := hl
        rcases List.mem_append.mp hl with z | z
        · exact ih.rng l z
        · simp at z
          subst z
          exact laneOf_in hn _ _
    · exact ⟨Nat.le_succ_of_le ih.len, ih.outs, ih.dup, ih.rng⟩
structure Good (B : Brd) : Prop where
  pos : 1 ≤ B.n
  few : B.n ≤ 7
  len : B.lanes.length ≤ 61
  dup : B.lanes.Nodup
  rng : ∀ l ∈ B.lanes, (0 ≤ l.1 ∧ l.1 < (B.n : Int)) ∧ 0 ≤ l.2 ∧ l.2 < (B.n : Int)
  cin : ∀ c ∈ B.coops, 0 ≤ c ∧ c < (B.n : Int)
  cnd : B.coops.Nodup
theorem coops_ord (seed : Int) (n : Nat) : (coopsUp seed n).Pairwise (· < ·) := by
  unfold coopsUp
  rw [List.pairwise_map]
  exact (List.pairwise_lt_range.imp fun h => Int.ofNat_lt.mpr h).filter _
theorem coops_in {seed : Int} {n : Nat} {c : Int} (h : c ∈ coopsUp seed n) : 0 ≤ c ∧ c < (n : Int) := by
  unfold coopsUp at h
  obtain ⟨k, hk, e⟩ := List.mem_map.mp h
  have := List.mem_range.mp (List.mem_filter.mp hk).1
  have e : (k : Int) = c := e
  (first | lia | omega)
theorem boardOf_good {menu ns : List Int} (h : menu = menuA ∨ menu = menuB) (hl : ns.length ≤ 63) : Good (boardOf menu ns) := by
  have c := cnt_pos (ns := ns) h
  have g := runL_good (lim := limOf (atD ns 1)) (ns := ns) c.1 (ns.length - 2)
  have e : ((boardOf menu ns).n : Int) = cntOf menu ns := by
    show (((cntOf menu ns).toNat : Nat) : Int) = _
    (first | lia | omega)
  refine ⟨?_, ?_, ?_, g.dup, ?_, ?_, ?_⟩
  · show 1 ≤ (cntOf menu ns).toNat
    (first | lia | omega)
  · show (cntOf menu ns).toNat ≤ 7
    (first | lia | omega)
  · have := g.len
    show (runL _ _ _ _).1.length ≤ 61
    (first | lia | omega)
  · intro l hl
    rw [e]
    exact g.rng l hl
  · intro c hc
    exact coops_in (n := (boardOf menu ns).n) hc
  · exact (coops_ord _ _).imp fun h => Int.ne_of_lt h
theorem sub_lenI {l m : List Int} (nd : l.Nodup) (sub : ∀ c ∈ l, c ∈ m) : l.length ≤ m.length := by
  induction l generalizing m with
  | nil => exact Nat.zero_le _
  | cons c r ih =>
    obtain ⟨n1, n2⟩ := List.nodup_cons.mp nd
    have hc := sub c List.mem_cons_self
    have := ih (m := m.erase c) n2 fun d hd => by
      refine (List.mem_erase_of_ne ?_).mpr (sub d (List.mem_cons_of_mem _ hd))
      rintro rfl
      exact n1 hd
    rw [List.length_erase_of_mem hc] at this
    have := List.length_pos_of_mem hc
    rw [List.length_cons]
    (first | lia | omega)
theorem coops7 {B : Brd} (g : Good B) : B.coops.length ≤ 7 := by
  have : B.coops.length ≤ ((List.range B.n).map Int.ofNat).length := sub_lenI g.cnd fun c hc => by
    obtain ⟨h0, h1⟩ := g.cin c hc
    exact List.mem_map.mpr ⟨c.toNat, List.mem_range.mpr (by (first | lia | omega)), by show ((c.toNat : Nat) : Int) = c; (first | lia | omega)⟩
  rw [List.length_map, List.length_range] at this
  have := g.few
  (first | lia | omega)
/-! ### ways -/
def waysL (lanes : List (Int × Int)) (y : Int) : List Int := (lanes.filter fun l => decide (l.1 = y)).map (·.2)
theorem mem_waysL {lanes : List (Int × Int)} {y z : Int} : z ∈ waysL lanes y ↔ (y, z) ∈ lanes := by
  unfold waysL
  constructor
  · intro h
    obtain ⟨l, hl, e⟩ := List.mem_map.mp h
    obtain ⟨h1, h2⟩ := List.mem_filter.mp hl
    have h2 : l.1 = y := of_decide_eq_true h2
    obtain ⟨a, b⟩ := l
    simp only at h2 e
    subst h2 e
    exact h1
  · intro h
    exact List.mem_map.mpr ⟨(y, z), List.mem_filter.mpr ⟨h, by simp⟩, rfl⟩
end Fx

set_option linter.all false
namespace Fx
/-! ### verdicts, worked out by rounds -/
structure Game (P : Type) where
  win : P → Option Bool
  turn : P → Bool
  mv : P → List P
def mins : List Nat → Nat
  | [] => 0
  | [n] => n
  | n :: m :: r => min n (mins (m :: r))
def maxs : List Nat → Nat
  | [] => 0
  | n :: r => max n (maxs r)
theorem mins_mem : ∀ {l : List Nat}, l ≠ [] → mins l ∈ l
  | [], h => absurd rfl h
  | [n], _ => by simp [mins]
  | n :: m :: r, _ => by
    have ih := mins_mem (l := m :: r) (by simp)
    rw [mins]
    by_cases h : n ≤ mins (m :: r)
    · rw [Nat.min_eq_left h]; exact List.mem_cons_self
    · rw [Nat.min_eq_right (by (first | lia | omega))]; exact List.mem_cons_of_mem _ ih
theorem mins_le : ∀ {l : List Nat} {x : Nat}, x ∈ l → mins l ≤ x
  | [n], x, h => by simp at h; simp [mins, h]
  | n :: m :: r, x, h => by
    rw [mins]
    rcases List.mem_cons.mp h with z | z
    · subst z; exact Nat.min_le_left _ _
    · exact Nat.le_trans (Nat.min_le_right _ _) (mins_le z)
theorem mins_eq {l : List Nat} {n : Nat} (h : n ∈ l) (h' : ∀ m ∈ l, n ≤ m) : mins l = n := by
  have h1 := mins_le h
  have h2 := h' _ (mins_mem (List.ne_nil_of_mem h))
  (first | lia | omega)
theorem maxs_le : ∀ {l : List Nat} {x : Nat}, x ∈ l → x ≤ maxs l
  | n :: r, x, h => by
    rw [maxs]
    rcases List.mem_cons.mp h with z | z
    · subst z; exact Nat.le_max_left _ _
    · exact Nat.le_trans (maxs_le z) (Nat.le_max_right _ _)
theorem maxs_mem : ∀ {l : List Nat}, l ≠ [] → maxs l ∈ l
  | [], h => absurd rfl h
  | [n], _ => by simp [maxs]
  | n :: m :: r, _ => by
    have ih := maxs_mem (l := m :: r) (by simp)
    rw [maxs]
    by_cases h : n ≤ maxs (m :: r)
    · rw [Nat.max_eq_right h]; exact List.mem_cons_of_mem _ ih
    · rw [Nat.max_eq_left (by (first | lia | omega))]; exact List.mem_cons_self
theorem maxs_eq {l : List Nat} {n : Nat} (h : n ∈ l) (h' : ∀ m ∈ l, m ≤ n) : maxs l = n := by
  have h1 := maxs_le h
  have h2 := h' _ (maxs_mem (List.ne_nil_of_mem h))
  (first | lia | omega)
abbrev Val := Option (Bool × Nat)
variable {P : Type}
def goodOf (t : Bool) (l : List (Bool × Nat)) : List Nat := (l.filter fun v => v.1 == t).map (·.2)
def valueOf (g : Game P) (k : P → Val) (p : P) : Val :=
  if goodOf (g.turn p) ((g.mv p).filterMap k) ≠ [] then some (g.turn p, mins (goodOf (g.turn p) ((g.mv p).filterMap k)) + 1)
  else if ((g.mv p).filterMap k).length < (g.mv p).length then none
  else some (!g.turn p, maxs (((g.mv p).filterMap k).map (·.2)) + 1)
theorem mem_good {g : Game P} {k : P → Val} {p : P} {t : Bool} {n : Nat} : n ∈ goodOf t ((g.mv p).filterMap k) ↔ ∃ q ∈ g.mv p, k q = some (t, n) := by
  unfold goodOf
  constructor
  · intro h
    obtain ⟨⟨s, m⟩, hv, e⟩ := List.mem_map.mp h
    obtain ⟨h1, h2⟩ := List.mem_filter.mp hv
    obtain ⟨q, hq, e2⟩ := List.mem_filterMap.mp h1
    have h2 : s = t := by simpa using h2
    have e : m = n := e
    subst h2 e
    exact ⟨q, hq, e2⟩
  · rintro ⟨q, hq, e⟩
    exact List.mem_map.mpr ⟨(t, n), List.mem_filter.mpr ⟨List.mem_filterMap.mpr ⟨q, hq, e⟩, by simp⟩, rfl⟩
theorem fm_len {α β : Type} (f : α → Option β) : ∀ l : List α, (l.filterMap f).length ≤ l.length ∧ ((l.filterMap f).length < l.length ↔ ∃ x ∈ l, f x = none)
  | [] => by simp
  | a :: r => by
    have ih := fm_len f r
    cases e : f a with
    | none =>
      rw [List.filterMap_cons, e]
      refine ⟨by simp; (first | lia | omega), ⟨fun _ => ⟨a, List.mem_cons_self, e⟩, fun _ => by simp; (first | lia | omega)⟩⟩
    | some b =>
      rw [List.filterMap_cons, e]
      refine ⟨by simp; (first | lia | omega), ?_⟩
      simp only [List.length_cons]
      rw [Nat.add_lt_add_iff_right, ih.2]
      constructor
      · rintro ⟨x, hx, ex⟩; exact ⟨x, List.mem_cons_of_mem _ hx, ex⟩
      · rintro ⟨x, hx, ex⟩
        rcases List.mem_cons.mp hx with z | z
        · subst z; rw [e] at ex; cases ex
        · exact ⟨x, z, ex⟩
/-- some move wins in n more, none sooner -/
structure IsWin (g : Game P) (k : P → Val) (p : P) (n : Nat) : Prop where
  has : ∃ q ∈ g.mv p, k q = some (g.turn p, n)
  least : ∀ q ∈ g.mv p, ∀ m, k q = some (g.turn p, m) → n ≤ m
/-- every move loses, in n more at the latest -/
structure IsLose (g : Game P) (k : P → Val) (p : P) (n : Nat) : Prop where
  all : ∀ q ∈ g.mv p, ∃ m, k q = some (!g.turn p, m) ∧ m ≤ n
  has : ∃ q ∈ g.mv p, k q = some (!g.turn p, n)
variable {g : Game P} {k : P → Val} {p : P} {n : Nat}
theorem valueOf_win (h : IsWin g k p n) : valueOf g k p = some (g.turn p, n + 1) := by
  have hm : n ∈ goodOf (g.turn p) ((g.mv p).filterMap k) := mem_good.mpr h.has
  unfold valueOf
  rw [if_pos (List.ne_nil_of_mem hm), mins_eq hm fun m hm => ?_]
  obtain ⟨q, hq, e⟩ := mem_good.mp hm
  exact h.least q hq m e
theorem not_self (b : Bool) : (!b) ≠ b := by cases b <;> simp
theorem IsLose.nogood (h : IsLose g k p n) : goodOf (g.turn p) ((g.mv p).filterMap k) = [] := by
  cases e : goodOf (g.turn p) ((g.mv p).filterMap k) with
  | nil => rfl
  | cons m r =>
    have hm : m ∈ goodOf (g.turn p) ((g.mv p).filterMap k) := by rw [e]; exact List.mem_cons_self
    obtain ⟨q, hq, e1⟩ := mem_good.mp hm
    obtain ⟨m', e2, _⟩ := h.all q hq
    rw [e1] at e2
    exact absurd (Prod.mk.inj (Option.some.inj e2)).1.symm (not_self _)
theorem valueOf_lose (h : IsLose g k p n) : valueOf g k p = some (!g.turn p, n + 1) := by
  unfold valueOf
  rw [if_neg (by rw [h.nogood]; simp), if_neg]
  · congr 2
    rw [maxs_eq (n := n)]
    · obtain ⟨q, hq, e⟩ := h.has
      exact List.mem_map.mpr ⟨_, List.mem_filterMap.mpr ⟨q, hq, e⟩, rfl⟩
    · intro m hm
      obtain ⟨⟨s, m'⟩, hv, e⟩ := List.mem_map.mp hm
      obtain ⟨q, hq, e2⟩ := List.mem_filterMap.mp hv
      obtain ⟨m2, e3, hle⟩ := h.all q hq
      rw [e2] at e3
      have := (Prod.mk.inj (Option.some.inj e3)).2
      have e : m' = m := e
      (first | lia | omega)
  · intro z
    obtain ⟨q, hq, e⟩ := (fm_len k (g.mv p)).2.mp z
    obtain ⟨m, e2, _⟩ := h.all q hq
    rw [e] at e2
    cases e2
theorem valueOf_some {v : Bool × Nat} (h : valueOf g k p = some v) (hne : g.mv p ≠ []) : (∃ n, v = (g.turn p, n + 1) ∧ IsWin g k p n) ∨ ∃ n, v = (!g.turn p, n + 1) ∧ IsLose g k p n := by
  unfold valueOf at h
  split at h
  · rename_i hg
    refine .inl ⟨_, (Option.some.inj h).symm, mem_good.mp (mins_mem hg), fun q hq m e => mins_le (mem_good.mpr ⟨q, hq, e⟩)⟩
  · rename_i hg
    split at h
    · cases h
    · rename_i hl
      have all : ∀ q ∈ g.mv p, ∃ m, k q = some (!g.turn p, m) := fun q hq => by
        cases e : k q with
        | none => exact absurd ((fm_len k (g.mv p)).2.mpr ⟨q, hq, e⟩) hl
        | some w =>
          obtain ⟨s, m⟩ := w
          have : s ≠ g.turn p := fun z => by
            subst z
            have := mem_good (g := g) (t := g.turn p) (n := m).mpr ⟨q, hq, e⟩
            simp only [ne_eq, Decidable.not_not] at hg
            rw [hg] at this
            cases this
          have e2 : s = !g.turn p := by revert this; cases s <;> cases g.turn p <;> simp
          rw [e2]
          exact ⟨m, rfl⟩
      have hne2 : ((g.mv p).filterMap k).map (·.2) ≠ [] := by
        cases em : g.mv p with
        | nil => exact absurd em hne
        | cons a r =>
          obtain ⟨m, e⟩ := all a (by rw [em]; exact List.mem_cons_self)
          rw [List.filterMap_cons, e]
          simp
      refine .inr ⟨_, (Option.some.inj h).symm, fun q hq => ?_, ?_⟩
      · obtain ⟨m, e⟩ := all q hq
        exact ⟨m, e, maxs_le (List.mem_map.mpr ⟨_, List.mem_filterMap.mpr ⟨q, hq, e⟩, rfl⟩)⟩
      · obtain ⟨⟨s, m⟩, hv, e⟩ := List.mem_map.mp (maxs_mem hne2)
        obtain ⟨q, hq, e2⟩ := List.mem_filterMap.mp hv
        obtain ⟨m', e3⟩ := all q hq
        rw [e2] at e3
        have := (Prod.mk.inj (Option.some.inj e3)).1
        have e : m = maxs (((g.mv p).filterMap k).map (·.2)) := e
        refine ⟨q, hq, ?_⟩
        rw [e2, this, ← e]
theorem valueOf_none : valueOf g k p = none ↔ (∀ q ∈ g.mv p, ∀ m, k q ≠ some (g.turn p, m)) ∧ ∃ q ∈ g.mv p, k q = none := by
  unfold valueOf
  constructor
  · intro h
    split at h
    · cases h
    · rename_i hg
      simp only [ne_eq, Decidable.not_not] at hg
      split at h
      · rename_i hl
        refine ⟨fun q hq m e => ?_, (fm_len k (g.mv p)).2.mp hl⟩
        have := mem_good (g := g) (t := g.turn p) (n := m).mpr ⟨q, hq, e⟩
        rw [hg] at this
        cases this
      · cases h
  · rintro ⟨h1, h2⟩
    rw [if_neg, if_pos ((fm_len k (g.mv p)).2.mpr h2)]
    intro z
    obtain ⟨q, hq, e⟩ := mem_good.mp (mins_mem z)
    exact h1 q hq _ e
/-- what is known behind r rounds -/
def Kn (g : Game P) : Nat → P → Val
  | 0, p => (g.win p).map fun s => (s, 0)
  | r + 1, p => match Kn g r p with
    | some v => some v
    | none => valueOf g (Kn g r) p
theorem Kn_succ {r : Nat} {v : Bool × Nat} (h : Kn g r p = some v) : Kn g (r + 1) p = some v := by
  rw [Kn, h]
theorem Kn_mono {r s : Nat} {v : Bool × Nat} (h : Kn g r p = some v) (hs : r ≤ s) : Kn g s p = some v := by
  induction s with
  | zero => have : r = 0 := by (first | lia | omega)
            subst this; exact h
  | succ s ih =>
    by_cases e : r = s + 1
    · subst e; exact h
    · exact Kn_succ (ih (by (first | lia | omega)))
theorem Kn_new {r : Nat} (h : Kn g r p = none) : Kn g (r + 1) p = valueOf g (Kn g r) p := by rw [Kn, h]
/-- the game goes on only where there are moves -/
def Goes (g : Game P) : Prop := ∀ p, g.win p = none → g.mv p ≠ []
theorem Kn_win {r : Nat} {s : Bool} (h : g.win p = some s) : Kn g r p = some (s, 0) := Kn_mono (r := 0) (by rw [Kn, h]; rfl) (Nat.zero_le _)
theorem Kn_nowin {r : Nat} (h : Kn g r p = none) : g.win p = none := by
  cases e : g.win p with
  | none => rfl
  | some s => rw [Kn_win e] at h; cases h
/-- what is new behind a round has just that count -/
theorem Kn_count (hg : Goes g) : ∀ (r : Nat) (p : P) (s : Bool) (n : Nat), Kn g r p = some (s, n) → n ≤ r ∧ Kn g n p = some (s, n) := by
  intro r
  induction r with
  | zero =>
    intro p s n h
    have h0 := h
    rw [Kn] at h
    cases e : g.win p with
    | none => rw [e] at h; cases h
    | some t =>
      rw [e] at h
      have : n = 0 := (Prod.mk.inj (Option.some.inj h)).2.symm
      subst this
      exact ⟨Nat.le_refl _, h0⟩
  | succ r ih =>
    intro p s n h
    cases e : Kn g r p with
    | some v =>
      rw [Kn_succ e] at h
      cases h
      obtain ⟨h1, h2⟩ := ih p s n e
      exact ⟨by (first | lia | omega), h2⟩
    | none =>
      have h0 := h
      rw [Kn_new e] at h
      have hne := hg p (Kn_nowin e)
      have key : n = r + 1 := by
        rcases valueOf_some h hne with ⟨m, ev, hw⟩ | ⟨m, ev, hl⟩
        · have em : n = m + 1 := (Prod.mk.inj ev).2
          obtain ⟨q, hq, eq⟩ := hw.has
          obtain ⟨hm, hk⟩ := ih q _ _ eq
          have : m = r := by
            rcases Nat.lt_or_ge m r with z | z
            · exfalso
              -- at the round before it would have been found
              cases r with
              | zero => (first | lia | omega)
              | succ r =>
                have e2 : Kn g r p = none := by
                  cases e3 : Kn g r p with
                  | none => rfl
                  | some v => rw [Kn_succ e3] at e; cases e
                rw [Kn_new e2] at e
                exact (valueOf_none.mp e).1 q hq m (Kn_mono hk (by (first | lia | omega)))
            · (first | lia | omega)
          (first | lia | omega)
        · have em : n = m + 1 := (Prod.mk.inj ev).2
          obtain ⟨q, hq, eq⟩ := hl.has
          obtain ⟨hm, hk⟩ := ih q _ _ eq
          have : m = r := by
            rcases Nat.lt_or_ge m r with z | z
            · exfalso
              cases r with
              | zero => (first | lia | omega)
              | succ r =>
                have e2 : Kn g r p = none := by
                  cases e3 : Kn g r p with
                  | none => rfl
                  | some v => rw [Kn_succ e3] at e; cases e
                rw [Kn_new e2] at e
                obtain ⟨q', hq', e4⟩ := (valueOf_none.mp e).2
                obtain ⟨m', e5, hle⟩ := hl.all q' hq'
                obtain ⟨_, hk'⟩ := ih q' _ _ e5
                rw [Kn_mono hk' (show m' ≤ r by (first | lia | omega))] at e4
                cases e4
            · (first | lia | omega)
          (first | lia | omega)
      subst key
      exact ⟨Nat.le_refl _, h0⟩
theorem fm_congr {α β : Type} {f f' : α → Option β} : ∀ {l : List α}, (∀ x ∈ l, f x = f' x) → l.filterMap f = l.filterMap f'
  | [], _ => rfl
  | a :: r, h => by
    rw [List.filterMap_cons, List.filterMap_cons, h a List.mem_cons_self, fm_congr fun x hx => h x (List.mem_cons_of_mem _ hx)]
/-- nothing new behind round r, among what moves lead to -/
theorem Kn_stop {r : Nat} (S : P → Prop) (hS : ∀ p, S p → ∀ q ∈ g.mv p, S q) (h : ∀ p, S p → Kn g (r + 1) p = Kn g r p) : ∀ s, r ≤ s → ∀ p, S p → Kn g s p = Kn g r p := by
  intro s
  induction s with
  | zero => intro hs p hp; have : r = 0 := by (first | lia | omega)
            subst this; rfl
  | succ s ih =>
    intro hs p hp
    by_cases e : r = s + 1
    · subst e; rfl
    · have hrs : r ≤ s := by (first | lia | omega)
      have e1 := ih hrs
      cases e2 : Kn g s p with
      | some v => rw [Kn_succ e2, ← e1 p hp, e2]
      | none =>
        rw [Kn_new e2]
        have e3 : Kn g r p = none := by rw [← e1 p hp]; exact e2
        have e4 := h p hp
        rw [Kn_new e3, e3] at e4
        rw [e3, ← e4]
        have c : ∀ q ∈ g.mv p, Kn g s q = Kn g r q := fun q hq => e1 q (hS p hp q hq)
        unfold valueOf
        rw [fm_congr c]
/-- how many of the list are known -/
def known (g : Game P) (ps : List P) (r : Nat) : Nat := (ps.filter fun p => (Kn g r p).isSome).length
theorem filter_len_le {α : Type} {f f' : α → Bool} : ∀ {l : List α}, (∀ x ∈ l, f x = true → f' x = true) → (l.filter f).length ≤ (l.filter f').length
  | [], _ => Nat.le_refl _
  | a :: r, h => by
    have ih := filter_len_le (l := r) fun x hx => h x (List.mem_cons_of_mem _ hx)
    have ha := h a List.mem_cons_self
    rw [List.filter_cons, List.filter_cons]
    cases e : f a with
    | true => rw [ha e]; simp; exact ih
    | false => cases e' : f' a <;> simp <;> (first | lia | omega)
theorem filter_len_eq {α : Type} {f f' : α → Bool} : ∀ {l : List α}, (∀ x ∈ l, f x = true → f' x = true) → (l.filter f').length ≤ (l.filter f).length → ∀ x ∈ l, f' x = true → f x = true
  | [], _, _, x, hx, _ => nomatch hx
  | a :: r, h, hl, x, hx, hf => by
    have hr := fun x hx => h x (List.mem_cons_of_mem (a := x) a hx)
    have ha := h a List.mem_cons_self
    have le := filter_len_le (l := r) hr
    rw [List.filter_cons, List.filter_cons] at hl
    cases e : f a with
    | true =>
      rw [e, ha e] at hl
      simp at hl
      rcases List.mem_cons.mp hx with z | z
      · subst z; exact e
      · exact filter_len_eq hr hl x z hf
    | false =>
      cases e' : f' a with
      | true => rw [e, e'] at hl; simp at hl; (first | lia | omega)
      | false =>
        rw [e, e'] at hl
        simp at hl
        rcases List.mem_cons.mp hx with z | z
        · subst z; rw [e'] at hf; cases hf
        · exact filter_len_eq hr hl x z hf
theorem known_le (g : Game P) (ps : List P) (r : Nat) : known g ps r ≤ ps.length := List.length_filter_le _ _
theorem isSome_some {α : Type} {o : Option α} (h : o.isSome = true) : ∃ v, o = some v := by cases o with | none => cases h | some v => exact ⟨v, rfl⟩
/-- either something is new, or it has come to rest -/
theorem known_step (g : Game P) (ps : List P) (r : Nat) : known g ps r < known g ps (r + 1) ∨ ∀ p ∈ ps, Kn g (r + 1) p = Kn g r p := by
  have up : ∀ p ∈ ps, (Kn g r p).isSome = true → (Kn g (r + 1) p).isSome = true := fun p _ h => by
    obtain ⟨v, e⟩ := isSome_some h
    rw [Kn_succ e]; rfl
  rcases Nat.lt_or_ge (known g ps r) (known g ps (r + 1)) with z | z
  · exact .inl z
  · refine .inr fun p hp => ?_
    cases e : Kn g r p with
    | some v => rw [Kn_succ e]
    | none =>
      cases e' : Kn g (r + 1) p with
      | none => rfl
      | some v =>
        have := filter_len_eq up z p hp (by rw [e']; rfl)
        rw [e] at this
        cases this
theorem rest_by (g : Game P) (ps : List P) : ∀ n, n ≤ known g ps n ∨ ∃ r, r < n ∧ ∀ p ∈ ps, Kn g (r + 1) p = Kn g r p
  | 0 => .inl (Nat.zero_le _)
  | n + 1 => by
    rcases rest_by g ps n with h | ⟨r, hr, h⟩
    · rcases known_step g ps n with z | z
      · exact .inl (by (first | lia | omega))
      · exact .inr ⟨n, by (first | lia | omega), z⟩
    · exact .inr ⟨r, by (first | lia | omega), h⟩
theorem rest_at (g : Game P) (ps : List P) : ∃ r, r ≤ ps.length ∧ ∀ p ∈ ps, Kn g (r + 1) p = Kn g r p := by
  rcases rest_by g ps (ps.length + 1) with h | ⟨r, hr, h⟩
  · have := known_le g ps (ps.length + 1)
    (first | lia | omega)
  · exact ⟨r, by (first | lia | omega), h⟩
/-- a game whose positions are the list's -/
structure Closed (g : Game P) (ps : List P) : Prop where
  goes : Goes g
  stays : ∀ p ∈ ps, ∀ q ∈ g.mv p, q ∈ ps
variable {ps : List P}
/-- the verdicts: what is known in the end -/
def fin (g : Game P) (ps : List P) : P → Val := Kn g ps.length
theorem fin_rest (c : Closed g ps) {s : Nat} (hs : ps.length ≤ s) : ∀ p ∈ ps, Kn g s p = fin g ps p := by
  obtain ⟨r, hr, h⟩ := rest_at g ps
  have st := Kn_stop (· ∈ ps) c.stays h
  intro p hp
  unfold fin
  rw [st s (by (first | lia | omega)) p hp, st ps.length hr p hp]
theorem fin_of {r : Nat} {v : Bool × Nat} (hp : p ∈ ps) (c : Closed g ps) (h : Kn g r p = some v) : fin g ps p = some v := by
  rw [← fin_rest c (s := max r ps.length) (Nat.le_max_right _ _) p hp]
  exact Kn_mono h (Nat.le_max_left _ _)
theorem fin_stop {r : Nat} (c : Closed g ps) (h : ∀ p ∈ ps, Kn g (r + 1) p = Kn g r p) : ∀ p ∈ ps, Kn g r p = fin g ps p := by
  intro p hp
  have st := Kn_stop (· ∈ ps) c.stays h
  rw [← st (max r ps.length) (Nat.le_max_left _ _) p hp]
  exact fin_rest c (Nat.le_max_right _ _) p hp
theorem fin_win {s : Bool} (h : g.win p = some s) : fin g ps p = some (s, 0) := Kn_win h
theorem fin_zero {s : Bool} {n : Nat} (h : g.win p = none) (hf : fin g ps p = some (s, n)) (hg : Goes g) : 1 ≤ n := by
  obtain ⟨_, h2⟩ := Kn_count hg _ _ _ _ hf
  cases n with
  | zero => rw [Kn, h] at h2; cases h2
  | succ n => (first | lia | omega)
/-- the verdicts follow from those on the next positions -/
theorem fin_eq (c : Closed g ps) (hp : p ∈ ps) (h : g.win p = none) : fin g ps p = valueOf g (fin g ps) p := by
  cases e : fin g ps p with
  | none =>
    have e1 := fin_rest c (s := ps.length + 1) (Nat.le_succ _) p hp
    rw [Kn_new (show Kn g ps.length p = none from e), e] at e1
    exact e1.symm
  | some v =>
    obtain ⟨s, n⟩ := v
    obtain ⟨h1, h2⟩ := Kn_count c.goes _ _ _ _ e
    cases n with
    | zero => rw [Kn, h] at h2; cases h2
    | succ m =>
      have e0 : Kn g m p = none := by
        cases e3 : Kn g m p with
        | none => rfl
        | some v =>
          have := Kn_succ e3
          rw [h2] at this
          have := Option.some.inj this
          subst this
          have := (Kn_count c.goes _ _ _ _ e3).1
          (first | lia | omega)
      have e1 := h2
      rw [Kn_new e0] at e1
      have up : ∀ q ∈ g.mv p, ∀ w, Kn g m q = some w → fin g ps q = some w := fun q hq w hw => fin_of (c.stays p hp q hq) c hw
      rcases valueOf_some e1 (c.goes p h) with ⟨m', ev, hw⟩ | ⟨m', ev, hl⟩
      · obtain ⟨es, em⟩ := Prod.mk.inj ev
        have em : m' = m := by (first | lia | omega)
        subst em es
        rw [valueOf_win (n := m') ⟨?_, ?_⟩]
        · obtain ⟨q, hq, eq⟩ := hw.has
          exact ⟨q, hq, up q hq _ eq⟩
        · intro q hq n hn
          rcases Nat.lt_or_ge n m' with z | z
          · exact hw.least q hq n (Kn_mono (Kn_count c.goes _ _ _ _ hn).2 (by (first | lia | omega)))
          · exact z
      · obtain ⟨es, em⟩ := Prod.mk.inj ev
        have em : m' = m := by (first | lia | omega)
        subst em es
        rw [valueOf_lose (n := m') ⟨?_, ?_⟩]
        · intro q hq
          obtain ⟨n, hn, hle⟩ := hl.all q hq
          exact ⟨n, up q hq _ hn, hle⟩
        · obtain ⟨q, hq, eq⟩ := hl.has
          exact ⟨q, hq, up q hq _ eq⟩
/-- the mover wins: some move, none sooner -/
theorem fin_mover (c : Closed g ps) (hp : p ∈ ps) (h : g.win p = none) {n : Nat} (hf : fin g ps p = some (g.turn p, n)) : ∃ m, n = m + 1 ∧ IsWin g (fin g ps) p m := by
  rw [fin_eq c hp h] at hf
  rcases valueOf_some hf (c.goes p h) with ⟨m, ev, hw⟩ | ⟨m, ev, hl⟩
  · exact ⟨m, (Prod.mk.inj ev).2, hw⟩
  · exact absurd (Prod.mk.inj ev).1.symm (not_self _)
theorem fin_other (c : Closed g ps) (hp : p ∈ ps) (h : g.win p = none) {n : Nat} (hf : fin g ps p = some (!g.turn p, n)) : ∃ m, n = m + 1 ∧ IsLose g (fin g ps) p m := by
  rw [fin_eq c hp h] at hf
  rcases valueOf_some hf (c.goes p h) with ⟨m, ev, hw⟩ | ⟨m, ev, hl⟩
  · exact absurd (Prod.mk.inj ev).1 (not_self _)
  · exact ⟨m, (Prod.mk.inj ev).2, hl⟩
theorem fin_open (c : Closed g ps) (hp : p ∈ ps) (hf : fin g ps p = none) : g.win p = none ∧ (∀ q ∈ g.mv p, ∀ m, fin g ps q ≠ some (g.turn p, m)) ∧ ∃ q ∈ g.mv p, fin g ps q = none := by
  have h := Kn_nowin hf
  have e := fin_eq c hp h
  rw [hf] at e
  exact ⟨h, valueOf_none.mp e.symm⟩
theorem turn_or (t s : Bool) : s = t ∨ s = !t := by cases t <;> cases s <;> simp
/-! ### one coop more -/
end Fx

set_option linter.all false
namespace Fx
open PySem PySem.SetTable
/-! ### the table of a set: a search comes to an empty slot -/
def advN (t : SetTable) : Nat → Probe → Probe
  | 0, p => p
  | n + 1, p => advN t n (t.advance p)
theorem advN_add (t : SetTable) : ∀ (n m : Nat) (p : Probe), advN t (n + m) p = advN t m (advN t n p)
  | 0, m, p => by rw [Nat.zero_add]; rfl
  | n + 1, m, p => by rw [Nat.succ_add]; exact advN_add t n m (t.advance p)
def runSt (t : SetTable) (x : Nat × Nat) : Probe := { j := x.1, more := runEnd t.mask x.1 - x.1, i := x.1, perturb := x.2, dummy := none }
theorem start_run (t : SetTable) (h : Int) : t.probeStart h = runSt t (bits h % (t.mask + 1), bits h) := rfl
theorem adv_in (t : SetTable) : ∀ (k : Nat) (p : Probe), k ≤ p.more → advN t k p = { p with j := p.j + k, more := p.more - k }
  | 0, p, _ => rfl
  | k + 1, p, h => by
    have e : t.advance p = { p with j := p.j + 1, more := p.more - 1 } := by
      unfold SetTable.advance
      rw [if_pos (by (first | lia | omega))]
    show advN t k (t.advance p) = _
    rw [e, adv_in t k _ (by show k ≤ p.more - 1; (first | lia | omega))]
    simp only
    congr 1
    · (first | lia | omega)
    · (first | lia | omega)
theorem runEnd_le (mask i : Nat) : runEnd mask i - i ≤ 9 := by unfold runEnd; split <;> (first | lia | omega)
theorem adv_run (t : SetTable) (x : Nat × Nat) : advN t (runEnd t.mask x.1 - x.1 + 1) (runSt t x) = runSt t (leap t.mask x.1 x.2) := by
  rw [advN_add, adv_in t (runEnd t.mask x.1 - x.1) (runSt t x) (Nat.le_refl _)]
  show t.advance _ = _
  unfold SetTable.advance
  rw [if_neg (by simp [runSt])]
  rfl
def lps (mask : Nat) : Nat → Nat × Nat → Nat × Nat
  | 0, x => x
  | n + 1, x => lps mask n (leap mask x.1 x.2)
theorem lps_add (mask : Nat) : ∀ (n m : Nat) (x : Nat × Nat), lps mask (n + m) x = lps mask m (lps mask n x)
  | 0, m, p => by rw [Nat.zero_add]; rfl
  | n + 1, m, p => by rw [Nat.succ_add]; exact lps_add mask n m _
theorem runs (t : SetTable) : ∀ (r : Nat) (x : Nat × Nat), ∃ N, N ≤ 10 * r ∧ advN t N (runSt t x) = runSt t (lps t.mask r x)
  | 0, x => ⟨0, Nat.le_refl _, rfl⟩
  | r + 1, x => by
    obtain ⟨N, h1, h2⟩ := runs t r (leap t.mask x.1 x.2)
    refine ⟨(runEnd t.mask x.1 - x.1 + 1) + N, ?_, ?_⟩
    · have := runEnd_le t.mask x.1
      (first | lia | omega)
    · rw [advN_add, adv_run, h2]
      rfl
theorem lps_perturb (mask : Nat) : ∀ (n : Nat) (x : Nat × Nat), (lps mask n x).2 = x.2 / 32 ^ n
  | 0, x => by simp [lps]
  | n + 1, x => by
    show (lps mask n (leap mask x.1 x.2)).2 = _
    rw [lps_perturb mask n]
    show x.2 / 32 / 32 ^ n = _
    rw [Nat.div_div_eq_div_mul, Nat.pow_succ, Nat.mul_comm]
theorem bits_lt (h : Int) : bits h < 2 ^ 64 := by
  unfold bits
  have := Int.emod_lt_of_pos h (show (0 : Int) < 2 ^ 64 by decide)
  have := Int.emod_nonneg h (show (2 ^ 64 : Int) ≠ 0 by decide)
  (first | lia | omega)
theorem lps_still (mask : Nat) {x : Nat × Nat} (h : x.2 < 2 ^ 64) : (lps mask 13 x).2 = 0 := by
  rw [lps_perturb]
  exact Nat.div_eq_of_lt (Nat.lt_of_lt_of_le h (by decide))
/-- the walk when nothing perturbs it -/
def itr (m : Nat) : Nat → Nat → Nat
  | 0, i => i
  | k + 1, i => itr m k ((i * 5 + 1) % m)
theorem lps_itr (mask : Nat) : ∀ (k i : Nat), lps mask k (i, 0) = (itr (mask + 1) k i, 0)
  | 0, i => rfl
  | k + 1, i => by
    show lps mask k (leap mask i 0) = _
    have e : leap mask i 0 = ((i * 5 + 1) % (mask + 1), 0) := rfl
    rw [e, lps_itr mask k]
    rfl
theorem itr_add (m : Nat) : ∀ (a b i : Nat), itr m (a + b) i = itr m b (itr m a i)
  | 0, b, i => by rw [Nat.zero_add]; rfl
  | a + 1, b, i => by rw [Nat.succ_add]; exact itr_add m a b _
def orbit (m : Nat) : Nat → Nat → List Nat
  | 0, _ => []
  | k + 1, i => i :: orbit m k ((i * 5 + 1) % m)
theorem mem_orbit (m : Nat) : ∀ (k i e : Nat), e ∈ orbit m k i → ∃ a, a < k ∧ itr m a i = e
  | 0, _, _, h => nomatch h
  | k + 1, i, e, h => by
    rcases List.mem_cons.mp h with z | z
    · exact ⟨0, by (first | lia | omega), z.symm⟩
    · obtain ⟨a, h1, h2⟩ := mem_orbit m k _ e z
      exact ⟨a + 1, by (first | lia | omega), h2⟩
def masks : List Nat := [7, 31, 127]
theorem orbit_all : ∀ mask ∈ masks, (∀ e ∈ List.range (mask + 1), e ∈ orbit (mask + 1) (mask + 1) 0) ∧ itr (mask + 1) (mask + 1) 0 = 0 := by decide +kernel
theorem reach {mask : Nat} (hm : mask ∈ masks) {i e : Nat} (hi : i < mask + 1) (he : e < mask + 1) : ∃ k, k < mask + 1 ∧ itr (mask + 1) k i = e := by
  obtain ⟨h1, h2⟩ := orbit_all mask hm
  obtain ⟨a, ha, ea⟩ := mem_orbit _ _ _ _ (h1 i (List.mem_range.mpr hi))
  obtain ⟨b, hb, eb⟩ := mem_orbit _ _ _ _ (h1 e (List.mem_range.mpr he))
  by_cases hab : a ≤ b
  · refine ⟨b - a, by (first | lia | omega), ?_⟩
    rw [← ea, ← itr_add, show a + (b - a) = b by (first | lia | omega), eb]
  · refine ⟨mask + 1 - a + b, by (first | lia | omega), ?_⟩
    rw [← ea, ← itr_add, show a + (mask + 1 - a + b) = (mask + 1) + b by (first | lia | omega), itr_add, h2, eb]
theorem lps_lt (mask : Nat) : ∀ (n : Nat) (x : Nat × Nat), x.1 < mask + 1 → (lps mask n x).1 < mask + 1
  | 0, x, h => h
  | n + 1, x, h => lps_lt mask n _ (Nat.mod_lt _ (Nat.succ_pos _))
/-- every slot is come to, at the beginning of a run -/
theorem visits {mask : Nat} (hm : mask ∈ masks) (h : Int) {e : Nat} (he : e < mask + 1) : ∃ r, r < mask + 14 ∧ (lps mask r (bits h % (mask + 1), bits h)).1 = e := by
  have hl := lps_lt mask 13 (bits h % (mask + 1), bits h) (Nat.mod_lt _ (Nat.succ_pos _))
  have hz := lps_still mask (x := (bits h % (mask + 1), bits h)) (bits_lt h)
  obtain ⟨k, hk, ek⟩ := reach hm hl he
  refine ⟨13 + k, by (first | lia | omega), ?_⟩
  rw [lps_add]
  have e2 : lps mask 13 (bits h % (mask + 1), bits h) = ((lps mask 13 (bits h % (mask + 1), bits h)).1, 0) := by rw [← hz]
  rw [e2, lps_itr]
  exact ek
theorem sub_len : ∀ {xs ys : List Nat}, xs.Nodup → (∀ x ∈ xs, x ∈ ys) → xs.length ≤ ys.length
  | [], _, _, _ => Nat.zero_le _
  | x :: xs, ys, hn, hs => by
    obtain ⟨h1, h2⟩ := List.nodup_cons.mp hn
    have hx := hs x List.mem_cons_self
    have := sub_len (xs := xs) (ys := ys.erase x) h2 fun z hz => by
      refine (List.mem_erase_of_ne ?_).mpr (hs z (List.mem_cons_of_mem _ hz))
      rintro rfl
      exact h1 hz
    rw [List.length_erase_of_mem hx] at this
    have := List.length_pos_of_mem hx
    rw [List.length_cons]
    (first | lia | omega)
/-- a table without dummies, not too full -/
structure TabOk (n : Nat) (t : SetTable) : Prop where
  place : t.place.size = n
  dum : t.dummies = #[]
  mask : t.mask ∈ masks
  room : n < t.mask + 1
theorem has_nil (j : Nat) : SetTable.has #[] j = false := by
  unfold SetTable.has
  simp
theorem slot_of {t : SetTable} (hd : t.dummies = #[]) (j : Nat) : t.slot j = .empty ∨ ∃ i, t.slot j = .live i ∧ i < t.place.size := by
  unfold SetTable.slot
  simp only [hd, has_nil, Bool.false_eq_true, if_false]
  by_cases h : (t.place[below t.place j]? == some j) = true
  · rw [if_pos h]
    refine .inr ⟨_, rfl, ?_⟩
    have := eq_of_beq h
    exact (Array.getElem?_eq_some_iff.mp this).1
  · rw [if_neg h]
    exact .inl rfl
theorem free_slot {n : Nat} {t : SetTable} (ok : TabOk n t) : ∃ e, e < t.mask + 1 ∧ t.slot e = .empty := by
  have hne : ∃ e, e < t.mask + 1 ∧ e ∉ t.place.toList := by
    refine Classical.byContradiction fun hc => ?_
    have all : ∀ e ∈ List.range (t.mask + 1), e ∈ t.place.toList := fun e he => Classical.byContradiction fun z => hc ⟨e, List.mem_range.mp he, z⟩
    have := sub_len List.nodup_range all
    rw [List.length_range, Array.length_toList, ok.place] at this
    have := ok.room
    (first | lia | omega)
  obtain ⟨e, he, hn⟩ := hne
  refine ⟨e, he, ?_⟩
  unfold SetTable.slot
  simp only [ok.dum, has_nil, Bool.false_eq_true, if_false]
  rw [if_neg]
  intro h
  have := eq_of_beq h
  obtain ⟨hlt, e2⟩ := Array.getElem?_eq_some_iff.mp this
  apply hn
  rw [← e2]
  simp
/-- some number of steps behind the start an empty slot is met -/
theorem meets_empty {n : Nat} {t : SetTable} (ok : TabOk n t) (h : Int) : ∃ N, N < 10 * turns t.mask ∧ t.slot (advN t N (t.probeStart h)).j = .empty := by
  obtain ⟨e, he, hs⟩ := free_slot ok
  obtain ⟨r, hr, er⟩ := visits ok.mask h he
  obtain ⟨N, h1, h2⟩ := runs t r (bits h % (t.mask + 1), bits h)
  refine ⟨N, by unfold turns; (first | lia | omega), ?_⟩
  rw [start_run, h2]
  show t.slot (lps t.mask r _).1 = _
  rw [er, hs]
theorem adv_dummy (t : SetTable) (p : Probe) : (t.advance p).dummy = p.dummy := by unfold SetTable.advance; split <;> rfl
/-! ### a table laid anew -/
theorem find_first {p : Nat → Bool} {n : Nat} (h0 : p 0 = true) (hn : 0 < n) : ∃ k, (List.range n).find? p = some k ∧ k < n ∧ p k = true := by
  cases e : (List.range n).find? p with
  | none =>
    have := List.find?_eq_none.mp e 0 (List.mem_range.mpr hn)
    rw [h0] at this
    exact absurd rfl this
  | some k => exact ⟨k, rfl, List.mem_range.mp (List.mem_of_find?_eq_some e), List.find?_some e⟩
/-- a free slot is found -/
theorem free_some {mask : Nat} (owner : Array (Option Nat)) : ∀ (r F : Nat) (x : Nat × Nat), r < F → (owner.getD (lps mask r x).1 (some 0)).isNone = true →
    ∃ j, layClean.free mask owner F x.1 x.2 = some j ∧ (owner.getD j (some 0)).isNone = true := by
  intro r
  induction r with
  | zero =>
    intro F x hF h
    obtain ⟨F, rfl⟩ : ∃ F', F = F' + 1 := ⟨F - 1, by (first | lia | omega)⟩
    obtain ⟨k, e, _, hk⟩ := find_first (p := fun k => (owner.getD (x.1 + k) (some 0)).isNone) (n := runEnd mask x.1 + 1 - x.1) (by rw [Nat.add_zero]; exact h) (by unfold runEnd; split <;> (first | lia | omega))
    refine ⟨x.1 + k, ?_, hk⟩
    unfold layClean.free
    rw [e]
  | succ r ih =>
    intro F x hF h
    obtain ⟨F, rfl⟩ : ∃ F', F = F' + 1 := ⟨F - 1, by (first | lia | omega)⟩
    unfold layClean.free
    cases e : (List.range (runEnd mask x.1 + 1 - x.1)).find? fun k => (owner.getD (x.1 + k) (some 0)).isNone with
    | some k =>
      have h2 := List.find?_some e
      exact ⟨x.1 + k, rfl, h2⟩
    | none => exact ih F (leap mask x.1 x.2) (by (first | lia | omega)) h
def cntO (owner : Array (Option Nat)) : Nat := (owner.toList.filter (·.isSome)).length
structure LayOk (mask k : Nat) (owner : Array (Option Nat)) : Prop where
  size : owner.size = mask + 1
  cnt : cntO owner = k
  vals : ∀ v ∈ owner.toList, ∀ i, v = some i → i < k
theorem filter_set : ∀ {l : List (Option Nat)} {j k : Nat}, l[j]? = some none → ((l.set j (some k)).filter (·.isSome)).length = (l.filter (·.isSome)).length + 1
  | [], j, k, h => by simp at h
  | a :: r, 0, k, h => by
    simp at h
    subst h
    simp
  | a :: r, j + 1, k, h => by
    have ih := filter_set (l := r) (j := j) (k := k) (by simpa using h)
    rw [List.set_cons_succ, List.filter_cons, List.filter_cons]
    cases a <;> simp [ih]
theorem lay_step {mask k : Nat} {owner : Array (Option Nat)} (ok : LayOk mask k owner) (hm : mask ∈ masks) (hk : k < mask + 1) (h : Int) :
    ∃ j, layClean.free mask owner (turns mask) (bits h % (mask + 1)) (bits h) = some j ∧ LayOk mask (k + 1) (owner.setIfInBounds j (some k)) := by
  -- an empty place
  have hne : ∃ e, e < mask + 1 ∧ owner.toList[e]? = some none := by
    refine Classical.byContradiction fun hc => ?_
    have all : owner.toList.filter (·.isSome) = owner.toList := by
      rw [List.filter_eq_self]
      intro a ha
      obtain ⟨e, he, rfl⟩ := List.mem_iff_getElem.mp ha
      cases q : owner.toList[e] with
      | some v => rfl
      | none => exact absurd ⟨e, by rw [Array.length_toList, ok.size] at he; exact he, by rw [List.getElem?_eq_getElem he, q]⟩ hc
    have e1 := ok.cnt
    unfold cntO at e1
    rw [all, Array.length_toList, ok.size] at e1
    (first | lia | omega)
  obtain ⟨e, he, hn⟩ := hne
  obtain ⟨r, hr, er⟩ := visits hm h he
  have hg : (owner.getD (lps mask r (bits h % (mask + 1), bits h)).1 (some 0)).isNone = true := by
    rw [er, Array.getD_eq_getD_getElem?, ← Array.getElem?_toList, hn]
    rfl
  obtain ⟨j, hj, hjn⟩ := free_some (mask := mask) owner r (turns mask) (bits h % (mask + 1), bits h) (by unfold turns; (first | lia | omega)) hg
  refine ⟨j, hj, ?_, ?_, ?_⟩
  · rw [Array.size_setIfInBounds, ok.size]
  · have hl : owner.toList[j]? = some none := by
      rw [Array.getD_eq_getD_getElem?, ← Array.getElem?_toList] at hjn
      cases q : owner.toList[j]? with
      | none => rw [q] at hjn; cases hjn
      | some v => rw [q] at hjn; cases v with
        | none => rfl
        | some v => cases hjn
    unfold cntO
    rw [Array.toList_setIfInBounds, filter_set hl]
    have := ok.cnt
    unfold cntO at this
    (first | lia | omega)
  · intro v hv i hi
    rw [Array.toList_setIfInBounds] at hv
    rcases List.mem_or_eq_of_mem_set hv with z | z
    · have := ok.vals v z i hi
      (first | lia | omega)
    · rw [z] at hi
      cases hi
      (first | lia | omega)
theorem lay_fold {mask : Nat} (hm : mask ∈ masks) : ∀ (hs : List Int) (k : Nat) (owner : Array (Option Nat)), LayOk mask k owner → k + hs.length ≤ mask →
    ∃ owner', hs.foldl (init := some (owner, k)) (fun acc h => do
      let (owner, k) ← acc
      let j ← layClean.free mask owner (turns mask) (bits h % (mask + 1)) (bits h)
      pure (owner.setIfInBounds j (some k), k + 1)) = some (owner', k + hs.length) ∧ LayOk mask (k + hs.length) owner'
  | [], k, owner, ok, _ => ⟨owner, rfl, ok⟩
  | h :: hs, k, owner, ok, hl => by
    rw [List.length_cons] at hl
    obtain ⟨j, hj, ok'⟩ := lay_step ok hm (by (first | lia | omega)) h
    obtain ⟨o', e, ok2⟩ := lay_fold hm hs (k + 1) _ ok' (by (first | lia | omega))
    refine ⟨o', ?_, ?_⟩
    · rw [List.foldl_cons]
      have e1 : (do
        let (owner, k) ← some (owner, k)
        let j ← layClean.free mask owner (turns mask) (bits h % (mask + 1)) (bits h)
        pure (owner.setIfInBounds j (some k), k + 1) : Option (Array (Option Nat) × Nat)) = some (owner.setIfInBounds j (some k), k + 1) := by
        show (layClean.free mask owner (turns mask) (bits h % (mask + 1)) (bits h)).bind _ = _
        rw [hj]
        rfl
      rw [e1, e, List.length_cons]
      congr 2
      (first | lia | omega)
    · rw [List.length_cons, show k + (hs.length + 1) = k + 1 + hs.length by (first | lia | omega)]
      exact ok2
theorem lay_clean {mask : Nat} (hm : mask ∈ masks) (hs : Array Int) (hl : hs.size ≤ mask) : ∃ owner, layClean mask hs = some owner ∧ LayOk mask hs.size owner := by
  have ok0 : LayOk mask 0 (Array.replicate (mask + 1) none) := by
    refine ⟨by simp, ?_, ?_⟩
    · unfold cntO
      rw [Array.toList_replicate]
      simp
    · intro v hv i hi
      rw [Array.toList_replicate] at hv
      rw [List.eq_of_mem_replicate hv] at hi
      cases hi
  obtain ⟨o, e, ok⟩ := lay_fold hm hs.toList 0 _ ok0 (by rw [Array.length_toList]; (first | lia | omega))
  refine ⟨o, ?_, ?_⟩
  · unfold layClean
    rw [← Array.foldl_toList]
    rw [e]
    rfl
  · rw [Nat.zero_add, Array.length_toList] at ok
    exact ok
theorem fm_isSome {α : Type} (f : Nat → Option α) : ∀ l : List Nat, (l.filterMap f).length = (l.filter fun j => (f j).isSome).length
  | [] => rfl
  | a :: r => by
    rw [List.filterMap_cons, List.filter_cons]
    cases e : f a <;> simp [e, fm_isSome f r]
theorem filter_range {l : List (Option Nat)} : ∀ {n : Nat}, n = l.length → ((List.range n).filter fun j => (l[j]?.getD none).isSome).length = (l.filter (·.isSome)).length := by
  intro n hn
  subst hn
  have : (List.range l.length).map (fun j => l[j]?.getD none) = l := by
    apply List.ext_getElem
    · simp
    · intro i h1 h2
      simp at h1
      simp [h1]
  have e : (l.filter (·.isSome)).length = (((List.range l.length).map (fun j => l[j]?.getD none)).filter (·.isSome)).length := by rw [this]
  rw [e, List.filter_map, List.length_map]
  rfl
/-- the table laid anew takes all, in some order -/
theorem relaid_ok {mask finger moves : Nat} {led plain : Bool} (hm : mask ∈ masks) {hs : Array Int} (hl : hs.size ≤ mask) :
    ∃ t order, laid mask finger moves led plain hs = some (t, order) ∧ TabOk hs.size t ∧ t.mask = mask ∧ order.size = hs.size ∧ ∀ i ∈ order.toList, i < hs.size := by
  obtain ⟨owner, e, ok⟩ := lay_clean hm hs hl
  have hlen : ((List.range (mask + 1)).filterMap fun j => (owner.getD j none).map (j, ·)).length = hs.size := by
    rw [fm_isSome]
    have e2 : (fun j => ((owner.getD j none).map (j, ·) : Option (Nat × Nat)).isSome) = fun j => (owner.toList[j]?.getD none).isSome := by
      funext j
      rw [Option.isSome_map, Array.getD_eq_getD_getElem?, Array.getElem?_toList]
    rw [e2, filter_range (by rw [Array.length_toList, ok.size])]
    exact ok.cnt
  refine ⟨_, _, by unfold laid; rw [e]; rfl, ⟨?_, rfl, hm, ?_⟩, rfl, ?_, ?_⟩
  · simp only [List.size_toArray, List.length_map]
    exact hlen
  · simp only
    (first | lia | omega)
  · simp only [List.size_toArray, List.length_map]
    exact hlen
  · intro i hi
    simp only [List.toList_toArray] at hi
    obtain ⟨⟨j, v⟩, hp, rfl⟩ := List.mem_map.mp hi
    obtain ⟨j', hj', ep⟩ := List.mem_filterMap.mp hp
    cases q : owner.getD j' none with
    | none => rw [q] at ep; cases ep
    | some z =>
      rw [q] at ep
      have ep : (j', z) = (j, v) := Option.some.inj ep
      obtain ⟨_, rfl⟩ := Prod.mk.inj ep
      have hmem : some z ∈ owner.toList := by
        rw [Array.getD_eq_getD_getElem?] at q
        cases q2 : owner[j']? with
        | none => rw [q2] at q; cases q
        | some w =>
          rw [q2] at q
          have q : w = some z := q
          subst q
          obtain ⟨hlt, e3⟩ := Array.getElem?_eq_some_iff.mp q2
          rw [← e3]
          simp
      exact ok.vals _ hmem z rfl
end Fx

set_option Elab.async false
set_option linter.all false
set_option maxRecDepth 100000
namespace L2
open PySem PySem.Spec PyProof.Rows

/-! ### a comprehension's block -/
theorem cellOf_some {env : Env} {n : Str} {c : Addr} (h : env.cells.lookup n = some c) : cellOf env n = pure c := by
  unfold cellOf; rw [h]
theorem closure_go (env : Env) : ∀ (names : List (Str × NameKind)) (acc : List (Str × Addr)), (∀ p ∈ names, p.2 = .free → ∃ c, env.cells.lookup p.1 = some c) →
    ∃ cl, (forIn names acc fun (x : Str × NameKind) (cs : List (Str × Addr)) => match x with
      | (name, kind) => if (kind == NameKind.free) = true then (do let c ← cellOf env name; pure (ForInStep.yield ((name, c) :: cs))) else pure (ForInStep.yield cs)) = (pure cl : Sem (List (Str × Addr))) ∧
      (∀ n c, cl.lookup n = some c → acc.lookup n = some c ∨ env.cells.lookup n = some c) ∧ (∀ n c, acc.lookup n = some c → ((n, NameKind.free) ∈ names → env.cells.lookup n = some c) → cl.lookup n = some c) ∧ ∀ n, (n, NameKind.free) ∈ names → cl.lookup n = env.cells.lookup n := by
  intro names
  induction names with
  | nil =>
    intro acc _
    exact ⟨acc, rfl, fun n c h => .inl h, fun n c h _ => h, fun n h => nomatch h⟩
  | cons p r ih =>
    intro acc hf
    obtain ⟨n, k⟩ := p
    by_cases hk : k = .free
    · subst hk
      obtain ⟨c, hc⟩ := hf (n, .free) List.mem_cons_self rfl
      have hc : env.cells.lookup n = some c := hc
      obtain ⟨cl, e, h1, h2, h3⟩ := ih ((n, c) :: acc) fun p hp => hf p (List.mem_cons_of_mem _ hp)
      refine ⟨cl, ?_, ?_, ?_, ?_⟩
      · simp only [List.forIn_cons, beq_self_eq_true, if_true, cellOf_some hc, pure_bind]
        exact e
      · intro m d hd
        rcases h1 m d hd with z | z
        · simp only [List.lookup_cons] at z
          by_cases hm : (m == n) = true
          · rw [hm] at z
            have hm' := eq_of_beq hm
            subst hm'
            cases z
            exact .inr hc
          · simp only [Bool.not_eq_true] at hm
            rw [hm] at z
            exact .inl z
        · exact .inr z
      · intro m d hd hm
        by_cases hmn : m = n
        · subst hmn
          have e1 := hm List.mem_cons_self
          refine h2 m d ?_ fun _ => e1
          rw [hc] at e1
          cases e1
          simp [List.lookup_cons]
        · refine h2 m d ?_ fun z => hm (List.mem_cons_of_mem _ z)
          have : (m == n) = false := by simpa using hmn
          simp only [List.lookup_cons, this]
          exact hd
      · intro m hm
        by_cases hmn : m = n
        · subst hmn
          rw [hc]
          exact h2 m c (by simp [List.lookup_cons]) fun _ => hc
        · rcases List.mem_cons.mp hm with z | z
          · exact absurd (Prod.mk.inj z).1 hmn
          · exact h3 m z
    · have hb : (k == NameKind.free) = false := by simpa using hk
      obtain ⟨cl, e, h1, h2, h3⟩ := ih acc fun p hp => hf p (List.mem_cons_of_mem _ hp)
      refine ⟨cl, ?_, h1, ?_, ?_⟩
      · simp only [List.forIn_cons, hb, Bool.false_eq_true, if_false, pure_bind]
        exact e
      · intro m d hd hm
        exact h2 m d hd fun z => hm (List.mem_cons_of_mem _ z)
      · intro m hm
        rcases List.mem_cons.mp hm with z | z
        · exact absurd (Prod.mk.inj z).2.symm hk
        · exact h3 m z
theorem closure_of {scope : Scope} {env : Env} (hf : ∀ p ∈ scope.names, p.2 = .free → ∃ c, env.cells.lookup p.1 = some c) :
    ∃ cl, closureFor scope env = pure cl ∧ (∀ n c, cl.lookup n = some c → env.cells.lookup n = some c) ∧ ∀ n, (n, NameKind.free) ∈ scope.names → cl.lookup n = env.cells.lookup n := by
  obtain ⟨cl, e, h1, _, h3⟩ := closure_go env scope.names [] hf
  refine ⟨cl, ?_, fun n c h => (h1 n c h).elim (fun z => nomatch z) id, h3⟩
  unfold closureFor
  first
  | (refine Eq.trans ?_ (congrArg (fun t => t >>= fun a => (pure a : Sem _)) e); rfl)
  | (simp only [bind_pure]; exact e)
  | exact e
theorem mem_of_lookup' {α : Type} : ∀ {l : List (Str × α)} {n : Str} {c : α}, l.lookup n = some c → (n, c) ∈ l
  | [], _, _, h => nomatch h
  | (m, d) :: r, n, c, h => by
    simp only [List.lookup_cons] at h
    by_cases e : (n == m) = true
    · rw [e] at h
      have e' := eq_of_beq e
      cases h
      subst e'
      exact List.mem_cons_self
    · simp only [Bool.not_eq_true] at e
      rw [e] at h
      exact List.mem_cons_of_mem _ (mem_of_lookup' h)
/-- in the block a free name stays one, or is called a cell -/
theorem lookup_relabel_free {env : Env} : ∀ {names : List (Str × NameKind)} {x : Str}, names.lookup x = some .free →
    (names.map fun (n, k) => if (k == NameKind.free && env.scope.kind == .function && env.kindOf n == some .cell) then (n, NameKind.cell) else (n, k)).lookup x = some .cell ∨
    (names.map fun (n, k) => if (k == NameKind.free && env.scope.kind == .function && env.kindOf n == some .cell) then (n, NameKind.cell) else (n, k)).lookup x = some .free
  | [], _, h => by simp at h
  | (n, k) :: r, x, h => by
    have ih := @lookup_relabel_free env r x
    show List.lookup x ((if (k == NameKind.free && env.scope.kind == .function && env.kindOf n == some .cell) = true then (n, NameKind.cell) else (n, k)) :: _) = _ ∨ List.lookup x ((if (k == NameKind.free && env.scope.kind == .function && env.kindOf n == some .cell) = true then (n, NameKind.cell) else (n, k)) :: _) = _
    cases hx : x == n with
    | true =>
      simp only [List.lookup_cons, hx] at h
      cases h
      by_cases hc : (NameKind.free == NameKind.free && env.scope.kind == .function && env.kindOf n == some .cell) = true
      · rw [if_pos hc]; left; simp only [List.lookup_cons, hx]
      · rw [if_neg hc]; right; simp only [List.lookup_cons, hx]
    | false =>
      simp only [List.lookup_cons, hx] at h
      by_cases hc : (k == NameKind.free && env.scope.kind == .function && env.kindOf n == some .cell) = true
      · rw [if_pos hc]; simp only [List.lookup_cons, hx]; exact ih h
      · rw [if_neg hc]; simp only [List.lookup_cons, hx]; exact ih h
/-- what is a cell or a free name in the block was a free one in the scope -/
theorem relabel_back {env : Env} : ∀ {names : List (Str × NameKind)} {x : Str}, (∀ y ∈ names, y.2 ≠ .cell) →
    ((names.map fun (n, k) => if (k == NameKind.free && env.scope.kind == .function && env.kindOf n == some .cell) then (n, NameKind.cell) else (n, k)).lookup x = some .cell ∨
    (names.map fun (n, k) => if (k == NameKind.free && env.scope.kind == .function && env.kindOf n == some .cell) then (n, NameKind.cell) else (n, k)).lookup x = some .free) → (x, NameKind.free) ∈ names
  | [], _, _, h => by simp at h
  | (n, k) :: r, x, hn, h => by
    have ih := @relabel_back env r x fun y hy => hn y (List.mem_cons_of_mem _ hy)
    have hk : k ≠ .cell := hn (n, k) List.mem_cons_self
    by_cases hc : (k == NameKind.free && env.scope.kind == .function && env.kindOf n == some .cell) = true
    · have hkf : k = .free := by
        simp only [Bool.and_eq_true, beq_iff_eq] at hc
        exact hc.1.1
      rw [List.map_cons] at h
      dsimp only at h
      rw [if_pos hc] at h
      cases hx : x == n with
      | true =>
        have := eq_of_beq hx
        subst this
        rw [hkf]
        exact List.mem_cons_self
      | false =>
        simp only [List.lookup_cons, hx] at h
        exact List.mem_cons_of_mem _ (ih h)
    · rw [List.map_cons] at h
      dsimp only at h
      rw [if_neg hc] at h
      cases hx : x == n with
      | true =>
        have := eq_of_beq hx
        subst this
        simp only [List.lookup_cons, hx] at h
        rcases h with h | h
        · exact absurd (Option.some.inj h) hk
        · rw [Option.some.inj h]
          exact List.mem_cons_self
      | false =>
        simp only [List.lookup_cons, hx] at h
        exact List.mem_cons_of_mem _ (ih h)

/-- the block's context -/
def Cx.inner (X : Cx) (scope : Scope) (cl : List (Str × Addr)) (N : List Str) (C : Addr) (fp : List Addr) (s : Shared) (H : Hp) : Cx where
  prog := X.prog
  w := X.w
  K := X.K
  mg := X.mg
  base := X.base
  A := X.A
  N := N
  s₀ := s
  H₀ := H
  env := compEnvC scope cl C X.env
  outer := X.stack
  stack := X.stack
  ex := fp
  fn := fun _ => false
  calm := true
  pn := []
  xe := fun _ _ => False
/-- the block's names: its own (none), and the free ones by their place outside -/
def inSt (ix : List (Option Nat)) (σ : St) : St := ix.map fun o => match o with | none => none | some j => (σ[j]?).getD none
structure CompScope (N₀ : List Str) (sc scope : Scope) (N : List Str) (ix : List (Option Nat)) : Prop where
  kind : scope.kind = .function
  nocell : ∀ y ∈ scope.names, y.2 ≠ .cell
  names : ∀ y ∈ scope.names, y.2 = .local → scope.names.lookup y.1 = some .local
  frees : ∀ y ∈ scope.names, y.2 = .free → sc.names.lookup y.1 = some .cell ∨ sc.names.lookup y.1 = some .free
  len : N.length = ix.length
  at_ : ∀ p ∈ N.zip ix, ∀ j, p.2 = some j → N₀[j]? = some p.1 ∧ scope.names.lookup p.1 = some .free
def csAt (N₀ : List Str) (scope : Scope) (p : Str × Option Nat) : Bool := match p.2 with
  | none => true
  | some j => decide (N₀[j]? = some p.1 ∧ scope.names.lookup p.1 = some .free)
def csOk (N₀ : List Str) (sc scope : Scope) (N : List Str) (ix : List (Option Nat)) : Bool :=
  decide (scope.kind = .function) && decide (∀ y ∈ scope.names, y.2 ≠ .cell) && decide (∀ y ∈ scope.names, y.2 = .local → scope.names.lookup y.1 = some .local) &&
  decide (∀ y ∈ scope.names, y.2 = .free → sc.names.lookup y.1 = some .cell ∨ sc.names.lookup y.1 = some .free) && decide (N.length = ix.length) && (N.zip ix).all (csAt N₀ scope)
theorem cs_mk {N₀ : List Str} {sc scope : Scope} {N : List Str} {ix : List (Option Nat)} (h : csOk N₀ sc scope N ix = true) : CompScope N₀ sc scope N ix := by
  unfold csOk at h
  simp only [Bool.and_eq_true, decide_eq_true_eq] at h
  obtain ⟨⟨⟨⟨⟨h1, h2⟩, h3⟩, h4⟩, h5⟩, h6⟩ := h
  refine ⟨h1, h2, h3, h4, h5, fun p hp j hj => ?_⟩
  have := List.all_eq_true.mp h6 p hp
  unfold csAt at this
  rw [hj] at this
  exact of_decide_eq_true this
/-- tests of a clause -/
def PTs (X : Cx) (ifs : List Expr) (t : TT) : Prop :=
  ∀ (pins : List (Addr × Obj)) (s : Shared) (σ : St) (H : Hp) (Q : Bool → Hp → Prop), Inv X pins σ H s → t σ H Q →
    wpAny (model X.prog X.w) X.A (forIn ifs true fun c r => if r = true then do let ok ← isTrue c X.env (eval c X.env); pure (ForInStep.yield ok) else pure (ForInStep.yield r)) (TP X pins σ Q) X.xe s
def ttT : TT := fun _ H Q => Q true H
theorem pts_nil {X : Cx} : PTs X [] ttT := fun _ _ _ H _ I h => wpAny_tests_nil ⟨H, I, h⟩
theorem pts_one {X : Cx} {c : Expr} {t : TT} (h : PT X c t) : PTs X [c] t := fun pins s σ H Q I hw => wpAny_tests_one (h pins s σ H Q I hw)

section
variable {X : Cx} {pins : List (Addr × Obj)} {σ : St} {H H2 : Hp} {s : Shared}
theorem inner_ok {scope : Scope} {cl : List (Str × Addr)} {N : List Str} {ix : List (Option Nat)} {C : Addr} {fp : List Addr} (I : Inv X pins σ H s) (hc : X.calm = true) (S : CompScope X.N X.env.scope scope N ix)
    (h1 : ∀ n c, cl.lookup n = some c → X.env.cells.lookup n = some c) (h2 : ∀ n, (n, NameKind.free) ∈ scope.names → cl.lookup n = X.env.cells.lookup n)
    (hf : ∀ b ∈ fp, FpOk X pins H b) (hlt : ∀ b ∈ fp, b < C) (hC : s.heap.objs.size ≤ C) : (X.inner scope cl N C fp s H).Ok where
  mod := I.ok.mod
  kind := S.kind
  glob := I.ok.glob
  blt := I.ok.blt
  above := hC
  inj := fun x y c e1 e2 => I.ok.inj x y c (h1 _ _ e1) (h1 _ _ e2)
  has := fun x hx => by
    have hm : (x, NameKind.free) ∈ scope.names := relabel_back (env := X.env) S.nocell hx
    obtain ⟨c, e⟩ := I.ok.has x (S.frees _ hm rfl)
    exact ⟨c, (h2 x hm).trans e⟩
  cab := fun x c hfn => nomatch hfn
  hd := fun _ => I.ok.hd hc
  frames := I.ok.frames
  stk := .inl rfl
  exf := fun b hb => ⟨Nat.ne_of_lt (hlt b hb), fun x c e => (hf b hb).2.2.2.2.1 x c (h1 _ _ e)⟩
  bs := I.bs
  bsz := Nat.le_trans I.ok.bsz I.sz
  noex := fun b o e hb => by
    rcases (hf b hb).2.2.2.1 with z | z
    · exact I.ok.noex b o e z
    · exact absurd (Nat.lt_of_lt_of_le (Heap.lt_size e) (Nat.le_trans I.ok.bsz z)) (Nat.lt_irrefl _)
  exfs := fun b hb z => by
    rcases List.mem_cons.mp (I.stkSub b z) with e | e
    · exact (hf b hb).2.1 e
    · exact (hf b hb).2.2.1 e
  funs := I.stack
  frf := I.stkFree
theorem inner_start {scope : Scope} {cl : List (Str × Addr)} {N : List Str} {ix : List (Option Nat)} {C : Addr} {fp : List Addr} {h₁ : Heap} {t' : Nat} (I : Inv X pins σ H s) (hc : X.calm = true) (S : CompScope X.N X.env.scope scope N ix)
    (h1 : ∀ n c, cl.lookup n = some c → X.env.cells.lookup n = some c) (h2 : ∀ n, (n, NameKind.free) ∈ scope.names → cl.lookup n = X.env.cells.lookup n)
    (hf : ∀ b ∈ fp, FpOk X pins H b) (hlt : ∀ b ∈ fp, b < C) (hC : s.heap.objs.size ≤ C) (hn : h₁.Ns C (fun _ => none)) (hk : ∀ b o, s.heap.get? b = some o → h₁.get? b = some o) :
    Inv (X.inner scope cl N C fp s H) [] (inSt ix σ) H { s with heap := h₁, toks := t' } where
  ok := inner_ok I hc S h1 h2 hf hlt hC
  os := rfl
  bare := I.bare
  base := Un.kept hk
  loc := by
    refine ⟨_, hn, fun i x v e1 e2 e3 => ?_⟩
    have e1 : N[i]? = some x := e1
    unfold inSt at e2
    rw [List.getElem?_map] at e2
    cases ei : ix[i]? with
    | none => rw [ei] at e2; cases e2
    | some o =>
      rw [ei] at e2
      cases o with
      | none => exact nomatch (Option.some.inj e2)
      | some j =>
        have e2 : (σ[j]?).getD none = some v := Option.some.inj e2
        have ej : σ[j]? = some (some v) := by
          cases q : σ[j]? with
          | none => rw [q] at e2; cases e2
          | some z => rw [q] at e2; have e2 : z = some v := e2; rw [e2]
        have hz : (N.zip ix)[i]? = some (x, some j) := by
          rw [List.getElem?_zip_eq_some]
          exact ⟨e1, ei⟩
        obtain ⟨hN, hfr⟩ := S.at_ _ (List.mem_of_getElem? hz) j rfl
        have hN : X.N[j]? = some x := hN
        have hfr : scope.names.lookup x = some .free := hfr
        have hm := mem_of_lookup' hfr
        have hout := S.frees _ hm rfl
        obtain ⟨m, hnm, hl⟩ := I.loc
        obtain ⟨u, r, l⟩ := hl j x v hN ej (.inr hout)
        refine ⟨u, r, .inr ?_⟩
        rcases l with ⟨lk, _⟩ | ⟨lk, c, lc, lv⟩
        · exfalso
          have lk : X.env.scope.names.lookup x = some .local := lk
          rcases hout with z | z <;> (rw [lk] at z; cases z)
        · refine ⟨lookup_relabel_free hfr, c, (h2 x hm).trans lc, ?_⟩
          obtain ⟨o, ho, hd⟩ := lv
          exact ⟨o, hk _ o ho, hd⟩
  cell := fun x c e => by
    obtain ⟨v, o, ho, hd⟩ := I.cell x c (h1 _ _ e)
    exact ⟨v, o, hk _ o ho, hd⟩
  free := I.hok.fresh hC
  freeC := fun x c e => I.freeC x c (h1 _ _ e)
  pin := fun p hp => nomatch hp
  hok := I.hok.kept hk
  len := by
    show (inSt ix σ).length = N.length
    unfold inSt
    rw [List.length_map, S.len]

/-- the reading of a comprehension: W is the word by the turn and a measure -/
def tComp (wi : TI) (ix : List (Option Nat)) (g : TG) (tt : TT) (te : TE) : TE := fun σ H Q => wi σ H fun J H1 => ∀ D, H1 D = none →
  ∃ W : Nat → Nat → St → Hp → Prop, (∃ m, W 0 m (inSt ix σ) (upd H1 D (.lst []))) ∧ ∀ i m τ H2, W i m τ H2 →
    (J.stop i H2 ∧ Q (.ref D) H2) ∨ (J.go i H2 ∧ ∃ N : St → Hp → Prop, (∀ τ' H', N τ' H' → ∃ m', m' < m ∧ W (i + 1) m' τ' H') ∧
      ∀ x H', J.yld i H2 x H' → g x τ H' fun τ2 H3 => tt τ2 H3 fun b H4 => if b = true then te τ2 H4 fun y H5 => ∃ ys, H5 D = some (.lst ys) ∧ ys.length < sizeLine ∧ N τ2 (upd H5 D (.lst (ys ++ [y]))) else N τ2 H4)
/-- the block, from the iterator on -/
theorem comp_core {elt tg iter : Expr} {ifs : List Expr} {scope : Scope} {cl : List (Str × Addr)} {pos : Pos} {N : List Str} {ix : List (Option Nat)} {g : TG} {tt : TT} {te : TE} {Q : VK}
    {RR : Value → Addr → Result → Shared → Prop} {E : Value → Shared → Prop} {it : Addr} {fp : List Addr} {tn : Nat → Heap → Prop} {J : It}
    (hc : X.calm = true) (S : CompScope X.N X.env.scope scope N ix)
    (h1 : ∀ n c, cl.lookup n = some c → X.env.cells.lookup n = some c) (h2 : ∀ n, (n, NameKind.free) ∈ scope.names → cl.lookup n = X.env.cells.lookup n)
    (hg : ∀ C fp s H, PG (X.inner scope cl N C fp s H) tg g) (ht : ∀ C fp s H, PTs (X.inner scope cl N C fp s H) ifs tt) (he : ∀ C fp s H, PE (X.inner scope cl N C fp s H) elt te)
    (I : Inv X pins σ H s) (T : Turn X.prog X.w X.K tg J fp it tn) (st : tn 0 s.heap) (hf : ∀ b ∈ fp, FpOk X pins H b)
    (R : ∀ D, H D = none → ∃ W : Nat → Nat → St → Hp → Prop, (∃ m, W 0 m (inSt ix σ) (upd H D (.lst []))) ∧ ∀ i m τ H2, W i m τ H2 →
      (J.stop i H2 ∧ Q (.ref D) H2) ∨ (J.go i H2 ∧ ∃ N : St → Hp → Prop, (∀ τ' H', N τ' H' → ∃ m', m' < m ∧ W (i + 1) m' τ' H') ∧
        ∀ x H', J.yld i H2 x H' → g x τ H' fun τ2 H3 => tt τ2 H3 fun b H4 => if b = true then te τ2 H4 fun y H5 => ∃ ys, H5 D = some (.lst ys) ∧ ys.length < sizeLine ∧ N τ2 (upd H5 D (.lst (ys ++ [y]))) else N τ2 H4))
    (hRR : ∀ D C s' H', Inv X pins σ H' s' → FpOk X pins H' C → (∃ m, s'.heap.Ns C m) → Q (.ref D) H' → RR (.ref D) C (.ok .next) s') :
    wpAny (model X.prog X.w) X.A (newList []) (fun acc s₃ => wpAny (model X.prog X.w) X.A (newFunctionEnv scope X.env.globals cl [] X.env.qual none .none (some X.env)) (fun cenv s₄ =>
      codeAny (model X.prog X.w) X.A (.compStart (.ListComp elt [⟨tg, iter, ifs, 0⟩] scope pos) 0 (.ref it) acc { cenv with scope := relabel scope X.env }) (RR acc cenv.locals) s₄) E s₃) E s := by
  refine wpAny_newObj_type (wpAny_newFunctionEnv S.nocell (by intro y hy; simp at hy) (fun h₁ hns₁ hsb₁ => ?_) S.kind)
  dsimp only at hns₁ hsb₁ ⊢
  have I3 : Inv X pins σ (upd H s.heap.objs.size (.lst [])) { s with heap := s.heap.push { cls := .type "list", data := .seq ([] : List Value).toArray }, toks := s.toks } := I.lnew .nil (Nat.zero_le _)
  obtain ⟨W, ⟨m0, w0⟩, turn⟩ := R s.heap.objs.size I.fresh
  generalize hD : s.heap.objs.size = D at *
  generalize hH3 : upd H D (.lst []) = H3 at *
  generalize hh3 : s.heap.push { cls := .type "list", data := .seq ([] : List Value).toArray } = h3 at *
  have hszD : D < h3.objs.size := by rw [← hh3, Heap.size_push, hD]; exact Nat.lt_succ_self _
  have hf3 : ∀ b ∈ fp, FpOk X pins H3 b := fun b hb => by
    refine ⟨?_, (hf b hb).2⟩
    rw [← hH3, upd_ne]
    · exact (hf b hb).1
    · obtain ⟨o, e, _⟩ := T.obj _ _ st b hb
      have := Heap.lt_size e
      rw [hD] at this
      exact Nat.ne_of_lt this
  have hlt : ∀ b ∈ fp, b < h3.objs.size := fun b hb => by
    obtain ⟨o, e, _⟩ := T.obj _ _ st b hb
    have := Heap.lt_size e
    rw [hD] at this
    exact Nat.lt_trans this hszD
  have old : ∀ b o, h3.get? b = some o → h₁.get? b = some o := fun b o e => hsb₁.extBut b o (Nat.ne_of_lt (Heap.lt_size e)) (Heap.get?_push_of_some _ e)
  have old2 : ∀ b o, s.heap.get? b = some o → h₁.get? b = some o := fun b o e => old b o (by rw [← hh3]; exact Heap.get?_push_of_some _ e)
  have st1 : tn 0 h₁ := T.keep _ _ _ st fun b _ o e => old2 b o e
  have J4 : Inv (X.inner scope cl N h3.objs.size fp { s with heap := h3, toks := s.toks } H3) [] (inSt ix σ) H3 { s with heap := h₁, toks := s.toks + ([] : List (Str × Value)).length } :=
    inner_start (h₁ := h₁) (t' := s.toks + ([] : List (Str × Value)).length) I3 hc S h1 h2 hf3 hlt (Nat.le_refl _) hns₁ old
  have hg := hg h3.objs.size fp { s with heap := h3, toks := s.toks } H3
  have ht := ht h3.objs.size fp { s with heap := h3, toks := s.toks } H3
  have he := he h3.objs.size fp { s with heap := h3, toks := s.toks } H3
  generalize hY : X.inner scope cl N h3.objs.size fp { s with heap := h3, toks := s.toks } H3 = Y at *
  have yp : Y.prog = X.prog := by rw [← hY]; rfl
  have yw : Y.w = X.w := by rw [← hY]; rfl
  have yK : Y.K = X.K := by rw [← hY]; rfl
  have yA : Y.A = X.A := by rw [← hY]; rfl
  have yc : Y.calm = true := by rw [← hY]; rfl
  have ye : Y.env = compEnvC scope cl h3.objs.size X.env := by rw [← hY]; rfl
  have yx : Y.xe = fun _ _ => False := by rw [← hY]; rfl
  have yfp : ∀ {H' : Hp}, (∀ b ∈ fp, H' b = none) → ∀ b ∈ fp, FpOk Y [] H' b := fun hn b hb => by
    rw [← hY]
    refine ⟨hn b hb, Nat.ne_of_lt (hlt b hb), fun z => ?_, .inl hb, fun x c e => (hf b hb).2.2.2.2.1 x c (h1 _ _ e), fun p hp => nomatch hp⟩
    rcases List.mem_cons.mp (I.stkSub b z) with e | e
    · exact (hf b hb).2.1 e
    · exact (hf b hb).2.2.1 e
  have loop : codeAny (model X.prog X.w) X.A (.compLoop (.ListComp elt [⟨tg, iter, ifs, 0⟩] scope pos) 0 (.ref it) (.ref D) (compEnvC scope cl h3.objs.size X.env)) (RR (.ref D) h3.objs.size)
      { s with heap := h₁, toks := s.toks + ([] : List (Str × Value)).length } := by
    refine codeAny_loop rfl (fun n s' => ∃ i τ H', Inv Y [] τ H' s' ∧ tn i s'.heap ∧ (∀ b ∈ fp, H' b = none) ∧ W i n τ H') ?_ m0 ⟨0, _, H3, J4, st1, fun b hb => (hf3 b hb).1, w0⟩
    rintro n s3 ⟨i, τ3, H3', I3', st3, fr3, w3⟩
    show wpAny _ X.A ((compTurn (.ListComp elt [⟨tg, iter, ifs, 0⟩] scope pos) 0 (.ref it) (.ref D) (compEnvC scope cl h3.objs.size X.env)).onRaise (fun x => do noteFrame x (compEnvC scope cl h3.objs.size X.env); theTreesLotGoes x)) _ _ s3
    refine wpAny_noted ?_
    rw [compTurn_list]
    refine wpAny_bind (wpAny_standAt (wpAny_bind ?_))
    rcases turn i n τ3 H3' w3 with ⟨stop, qn⟩ | ⟨go, NN, hN, step⟩
    · have d := T.done Y yp yw yK yc i [] s3 τ3 H3' (notedBy (model X.prog X.w) X.A (compEnvC scope cl h3.objs.size X.env) fun e s' => RR (.ref D) h3.objs.size (.error e) s') I3' (yfp fr3) st3 stop
      rw [yA] at d
      refine thn d fun r s4 ⟨hr, I4⟩ => ?_
      subst hr
      refine wpAny_pure ?_
      have ex : Inv X pins σ H3' s4 := by
        have q := I4
        rw [← hY] at q
        exact I3.call' q.os q.base q.hok q.bare fun b hb => ⟨(hf b hb).2.2.2.1, (hf b hb).2.1, (hf b hb).2.2.2.2.1, (hf b hb).2.2.2.2.2⟩
      have q := I4
      rw [← hY] at q
      exact hRR D h3.objs.size s4 H3' ex (I3.fpOk (Nat.le_refl _) q.free) (let ⟨m, hm, _⟩ := q.loc; ⟨m, hm⟩) qn
    · have d := T.item Y yp yw yK yc i [] s3 τ3 H3' (notedBy (model X.prog X.w) X.A (compEnvC scope cl h3.objs.size X.env) fun e s' => RR (.ref D) h3.objs.size (.error e) s') I3' (yfp fr3) st3 go
      rw [yA] at d
      refine thn d fun r s4 ⟨u, hr, h4⟩ => ?_
      subst hr
      refine wpAny_bind (thn h4 fun _ s5 ⟨x, H5, I5, r5, y5, st5, fr5⟩ => ?_)
      have I5' := I5.pinned (yfp fr5) (T.obj _ _ st5)
      have gg := hg _ s5 τ3 H5 x u _ I5' r5 (step x H5 y5)
      rw [yp, yw, yA, ye, yx] at gg
      refine wpAny_bind (wpAny_mono gg (fun _ s6 ⟨τ6, H6, I6, q6⟩ => ?_) fun _ _ z => z.elim)
      have tt' := ht _ s6 τ6 H6 _ I6 q6
      rw [yp, yw, yA, ye, yx] at tt'
      refine wpAny_bind (wpAny_mono tt' (fun ok s7 ⟨H7, I7, q7⟩ => ?_) fun _ _ z => z.elim)
      have again : ∀ {τ8 : St} {H8 : Hp} {s8 : Shared}, Inv Y ([] ++ pinsAt fp s5.heap) τ8 H8 s8 → NN τ8 H8 → ∃ m, m < n ∧ ∃ i τ' H', Inv Y [] τ' H' s8 ∧ tn i s8.heap ∧ (∀ b ∈ fp, H' b = none) ∧ W i m τ' H' := fun {τ8 H8 s8} I8 n8 => by
        obtain ⟨m', hm, w8⟩ := hN τ8 H8 n8
        refine ⟨m', hm, i + 1, τ8, H8, I8.unpinned, T.keep _ _ _ st5 fun b hb o e => (I8.pin (b, o) (List.mem_append_right _ (List.mem_append_right _ (mem_pinsAt hb e)))).1, fun b hb => ?_, w8⟩
        obtain ⟨o, e, d⟩ := T.obj _ _ st5 b hb
        exact (I8.pin (b, o) (List.mem_append_right _ (List.mem_append_right _ (mem_pinsAt hb e)))).2.1
      cases ok with
      | false =>
        exact wpAny_pure ⟨rfl, again I7 q7⟩
      | true =>
        have ee := he _ s7 τ6 H7 _ I7 q7
        rw [yp, yw, yA, ye, yx] at ee
        refine wpAny_bind (wpAny_bind (wpAny_mono ee (fun y s8 ⟨yv, H8, I8, r8, ys, hys, hlen, n8⟩ => ?_) fun _ _ z => z.elim))
        have ap := mt_append (X := Y) _ s8 τ6 H8 (.ref D) [yv] (.ref D) [y] (fun _ H9 => NN τ6 H9) I8 rfl (.cons r8 .nil) ⟨D, ys, yv, rfl, rfl, hys, hlen, n8⟩
        rw [yp, yw, yA, yx] at ap
        refine wpAny_bind (wpAny_mono ap (fun _ s9 ⟨_, H9, I9, _, n9⟩ => ?_) fun _ _ z => z.elim)
        exact wpAny_pure (wpAny_pure ⟨rfl, again I9 n9⟩)
  exact codeAny_compStart_list loop (T.self X.A 0 _ _ _ st1 loop)

variable {elt tg iter : Expr} {ifs : List Expr} {scope : Scope} {pos : Pos} {N : List Str} {ix : List (Option Nat)} {wi : TI} {g : TG} {tt : TT} {te : TE}
theorem comp_cl (I : Inv X pins σ H s) (S : CompScope X.N X.env.scope scope N ix) :
    ∃ cl, closureFor scope X.env = pure cl ∧ (∀ n c, cl.lookup n = some c → X.env.cells.lookup n = some c) ∧ ∀ n, (n, NameKind.free) ∈ scope.names → cl.lookup n = X.env.cells.lookup n :=
  closure_of fun p hp hk => I.ok.has p.1 (S.frees p hp hk)
/-- [elt for tg in iter if ..] as a value -/
theorem pe_comp (N : List Str) (ix : List (Option Nat)) (hc : X.calm = true) (S : CompScope X.N X.env.scope scope N ix) (hi : PI X tg iter wi)
    (hg : ∀ cl C fp s H, PG (X.inner scope cl N C fp s H) tg g) (ht : ∀ cl C fp s H, PTs (X.inner scope cl N C fp s H) ifs tt) (he : ∀ cl C fp s H, PE (X.inner scope cl N C fp s H) elt te)
    (hs : ∀ x, foldedSetIterable iter X.env x = pure x := by intro _; rfl) : PE X (.ListComp elt [⟨tg, iter, ifs, 0⟩] scope pos) (tComp wi ix g tt te) := by
  intro pins s σ H Q I h
  obtain ⟨cl, e0, h1, h2⟩ := comp_cl I S
  rw [eval_ListComp]
  refine wpAny_comprehension_free (use := none) rfl hs e0 S.kind S.names (thn (hi pins s σ H _ I h) fun xv s₁ h₁ => thn h₁ fun itv s₂ h₂ => ?_)
  obtain ⟨it, fp, tn, J, H', e, I', T, st, hf, R⟩ := h₂
  subst e
  refine comp_core (Q := Q) hc S h1 h2 (hg cl) (ht cl) (he cl) I' T st hf R fun D C s' H'' J' hC hn q => ?_
  obtain ⟨m, hm⟩ := hn
  refine ⟨m, hm, fun h' hs' => ⟨.ref D, H'', ?_, rfl, q⟩⟩
  obtain ⟨f0, f1, f2, f3, f4, f5⟩ := hC
  exact J'.turned (t' := s'.toks) (fun b o hb e => hs'.extBut b o hb e) f0 f1 f3 f4 f5
/-- name = [elt for tg in iter if ..] -/
def tCompS (i : Nat) (te : TE) : TS := fun D σ H => te σ H fun x H1 => D.nx (σ.set i (some x)) H1
theorem ps_setComp {i : Nat} {y : Str} {py spos : Pos} (N : List Str) (ix : List (Option Nat)) (hc : X.calm = true) (S : CompScope X.N X.env.scope scope N ix) (hi : PI X tg iter wi)
    (hg : ∀ cl C fp s H, PG (X.inner scope cl N C fp s H) tg g) (ht : ∀ cl C fp s H, PTs (X.inner scope cl N C fp s H) ifs tt) (he : ∀ cl C fp s H, PE (X.inner scope cl N C fp s H) elt te)
    (hN : X.N.Nodup) (hix : X.N[i]? = some y) (hy : Loc X.env.scope y)
    (hsw : swapsWith (.ListComp elt [⟨tg, iter, ifs, 0⟩] scope pos) (some (.Name y py)) spos.line X.env = pure true)
    (hs : ∀ x, foldedSetIterable iter X.env x = pure x := by intro _; rfl) (hf : X.fn y = true ∨ X.env.scope.names.lookup y = some .local := by first | exact .inl rfl | exact .inr rfl | assumption) :
    PS X (.Assign [.Name y py] (.ListComp elt [⟨tg, iter, ifs, 0⟩] scope pos) spos) (tCompS i (tComp wi ix g tt te)) := by
  intro pins s σ H D I h
  obtain ⟨cl, e0, h1, h2⟩ := comp_cl I S
  rw [exec_Assign_Name_used _ _ _ _ hsw]
  refine wpAny_bind (wpAny_standAt (wpAny_bind ?_))
  show wpAny _ X.A (do let _ ← comprehension (.ListComp elt [⟨tg, iter, ifs, 0⟩] scope pos) scope X.env _ (newList []) false (eval iter X.env) (some (assign (.Name y py) X.env))) _ _ s
  refine wpAny_bind (wpAny_mono (wpAny_comprehension_free (use := some (assign (.Name y py) X.env)) (Q := fun _ s' => SP X pins D .next s') rfl hs e0 S.kind S.names
    (thn (hi pins s σ H _ I h) fun xv s₁ h₁ => thn h₁ fun itv s₂ h₂ => ?_)) (fun _ s' hq => wpAny_pure (wpAny_pure hq)) fun _ _ e => e)
  obtain ⟨it, fp, tn, J, H', e, I', T, st, hf', R⟩ := h₂
  subst e
  refine comp_core (Q := fun x H1 => D.nx (σ.set i (some x)) H1) hc S h1 h2 (hg cl) (ht cl) (he cl) I' T st hf' R fun DD C s' H'' J' hC hn q => ?_
  obtain ⟨m, hm⟩ := hn
  obtain ⟨oC, es, ep, hoC, hdC, hrest⟩ := id hm
  obtain ⟨f0, f1, f2, f3, f4, f5⟩ := hC
  have J2 : Inv X (pins ++ [(C, oC)]) σ H'' s' := J'.pins_of fun p hp => (List.mem_append.mp hp).elim (fun z => J'.pin p (List.mem_append_right _ z)) fun z => by
    have e : p = (C, oC) := by simpa using z
    subst e
    exact ⟨hoC, f0, f1, f2, fun v z => by rw [hdC] at z; cases z⟩
  show wpAny _ X.A (assign (.Name y py) X.env (.ref DD)) _ _ _
  refine thn (pg_name (i := i) hN hix hy hf _ s' σ H'' (.ref DD) (.ref DD) (fun σ' H' => D.nx σ' H') J2 rfl q) fun _ s₄ ⟨σ4, H4, I4, q4⟩ => ?_
  obtain ⟨p1, p2, p3, p4, p5⟩ := I4.pin (C, oC) (List.mem_append_right _ (List.mem_append_right _ (by simp)))
  refine ⟨m, ⟨oC, es, ep, p1, hdC, hrest⟩, fun h' hs' => ⟨σ4, H4, ?_, q4⟩⟩
  exact (I4.unpinned).turned (t' := s₄.toks) (fun b o hb e => hs'.extBut b o hb e) p2 p3 f3 f4 f5
end
end L2

set_option Elab.async false
set_option linter.all false
set_option maxRecDepth 100000
namespace Fx
open PySem PySem.Spec PyProof.Rows L2

/-! ### data at values -/
mutual
inductive At (H : Hp) : V → PyData → Prop where
  | non : At H .non .none
  | bl (b : Bool) : At H (.bl b) (.bool b)
  | int (i : Int) : At H (.int i) (.int i)
  | str {x : Str} : PyData.canLay0 (.str x) = true → At H (.str x) (.str x)
  | tup {a : Addr} {xs : List V} {ds : List PyData} : H a = some (.tup xs) → AtAll H xs ds → At H (.ref a) (.tuple ds)
  | lst {a : Addr} {xs : List V} {ds : List PyData} : H a = some (.lst xs) → AtAll H xs ds → At H (.ref a) (.list ds)
inductive AtAll (H : Hp) : List V → List PyData → Prop where
  | nil : AtAll H [] []
  | cons {x : V} {d : PyData} {xs : List V} {ds : List PyData} : At H x d → AtAll H xs ds → AtAll H (x :: xs) (d :: ds)
end
mutual
theorem At.mono {H H' : Hp} (s : Same H H') : ∀ {v : V} {d : PyData}, At H v d → At H' v d
  | _, _, .non => .non
  | _, _, .bl b => .bl b
  | _, _, .int b => .int b
  | _, _, .str b => .str b
  | _, _, .tup h t => .tup (s _ _ h) (AtAll.mono s t)
  | _, _, .lst h t => .lst (s _ _ h) (AtAll.mono s t)
theorem AtAll.mono {H H' : Hp} (s : Same H H') : ∀ {v : List V} {d : List PyData}, AtAll H v d → AtAll H' v d
  | _, _, .nil => .nil
  | _, _, .cons h t => .cons (At.mono s h) (AtAll.mono s t)
end
theorem AtAll.length {H : Hp} : ∀ {v : List V} {d : List PyData}, AtAll H v d → v.length = d.length
  | _, _, .nil => rfl
  | _, _, .cons _ t => by rw [List.length_cons, List.length_cons, AtAll.length t]
theorem AtAll.get' {H : Hp} : ∀ {v : List V} {d : List PyData} {i : Nat} {x : V}, AtAll H v d → v[i]? = some x → ∃ e, d[i]? = some e ∧ At H x e
  | _, _, _, _, .nil, h => by simp at h
  | _, _, 0, _, .cons a t, h => by
    simp at h
    subst h
    exact ⟨_, rfl, a⟩
  | _, _, i + 1, _, .cons a t, h => by
    obtain ⟨x, h1, h2⟩ := AtAll.get' (i := i) t (by simpa using h)
    exact ⟨x, by simpa using h1, h2⟩
theorem AtAll.append {H : Hp} : ∀ {v w : List V} {d e : List PyData}, AtAll H v d → AtAll H w e → AtAll H (v ++ w) (d ++ e)
  | _, _, _, _, .nil, s => s
  | _, _, _, _, .cons a t, s => .cons a (AtAll.append t s)
theorem AtAll.one {H : Hp} {x : V} {d : PyData} (h : At H x d) : AtAll H [x] [d] := .cons h .nil
theorem AtAll.ints {H : Hp} : ∀ (ns : List Int), AtAll H (ns.map V.int) (ns.map PyData.int)
  | [] => .nil
  | n :: r => .cons (.int n) (AtAll.ints r)
theorem AtAll.ints_of {H : Hp} : ∀ {ns : List Int} {xs : List V}, AtAll H xs (ns.map PyData.int) → xs = ns.map V.int
  | [], _, .nil => rfl
  | n :: r, _, .cons (.int _) t => by rw [AtAll.ints_of t]; rfl
mutual
theorem At.can {H : Hp} : ∀ {v : V} {d : PyData}, At H v d → d.canLay0 = true
  | _, _, .non => rfl
  | _, _, .bl _ => rfl
  | _, _, .int _ => rfl
  | _, _, .str h => h
  | _, _, .tup _ t => by rw [PyData.canLay0]; exact AtAll.can t
  | _, _, .lst _ t => by rw [PyData.canLay0]; exact AtAll.can t
theorem AtAll.can {H : Hp} : ∀ {v : List V} {d : List PyData}, AtAll H v d → PyData.canLayAll0 d = true
  | _, _, .nil => rfl
  | _, _, .cons a t => by rw [PyData.canLayAll0, At.can a, AtAll.can t]; rfl
end
mutual
theorem At.reads {P : Program} {w : World} {H : Hp} {h : Heap} (ok : HOk P w H h) : ∀ {v : V} {d : PyData} {u : Value}, At H v d → RelV v u → ∃ as, Reads h u d as
  | _, _, _, .non, r => by cases (show _ = Value.none from r); exact ⟨_, .none⟩
  | _, _, _, .bl b, r => by cases (show _ = Value.bool b from r); exact ⟨_, .bool b⟩
  | _, _, _, .int i, r => by obtain ⟨t, e⟩ := (show ∃ t, _ = Value.int i t from r); cases e; exact ⟨_, .int i t⟩
  | _, _, _, .str (x := x) _, r => by obtain ⟨t, e⟩ := (show ∃ t, _ = Value.str x t from r); cases e; exact ⟨_, .str x t⟩
  | _, _, _, .tup (a := a) (xs := xs) e t, r => by
    cases (show _ = Value.ref a from r)
    obtain ⟨_, its, rv, o, h1, h2, n, h3⟩ := (show ObjOk P w H h a (.tup xs) from ok a _ e)
    obtain ⟨as, q⟩ := AtAll.reads ok t rv
    exact ⟨_, .tuple h1 h2 h3 (by simpa using q)⟩
  | _, _, _, .lst (a := a) (xs := xs) e t, r => by
    cases (show _ = Value.ref a from r)
    obtain ⟨_, its, n, rv, h1⟩ := (show ObjOk P w H h a (.lst xs) from ok a _ e)
    obtain ⟨as, q⟩ := AtAll.reads ok t rv
    exact ⟨_, .list h1 rfl rfl (by simpa using q)⟩
theorem AtAll.reads {P : Program} {w : World} {H : Hp} {h : Heap} (ok : HOk P w H h) : ∀ {v : List V} {d : List PyData} {u : List Value}, AtAll H v d → Vals v u → ∃ as, ReadsAll h u d as
  | _, _, _, .nil, r => by cases r; exact ⟨_, .nil⟩
  | _, _, _, .cons a t, r => by
    cases r with
    | cons r rr =>
      obtain ⟨as, h1⟩ := At.reads ok a r
      obtain ⟨bs, h2⟩ := AtAll.reads ok t rr
      exact ⟨_, .cons h1 h2⟩
end

/-! ### the stable part and its growth -/
/-- G: what stays for good (part of H); the new things of G' were free in H -/
structure Ext (G H G' H' : Hp) : Prop where
  gg : Same G G'
  gh : Same G' H'
  hh : Same H H'
  new : ∀ a o, G' a = some o → G a = none → H a = none
theorem Ext.refl {G H : Hp} (s : Same G H) : Ext G H G H := ⟨Same.refl _, s, Same.refl _, fun a o h1 h2 => by rw [h1] at h2; cases h2⟩
theorem Ext.trans {G H G1 H1 G2 H2 : Hp} (a : Ext G H G1 H1) (b : Ext G1 H1 G2 H2) : Ext G H G2 H2 where
  gg := a.gg.trans b.gg
  gh := b.gh
  hh := a.hh.trans b.hh
  new := fun x o h1 h2 => by
    cases e : G1 x with
    | none => exact a.hh.free (b.new x o h1 e)
    | some u => exact a.new x u e h2
theorem same_upd {H : Hp} {p : Addr} {o : HO} (h : H p = none) : Same H (upd H p o) := fun b u e => by rw [upd_ne (ne_of_none e h)]; exact e
theorem _root_.L2.Same.upd2 {G H : Hp} {p : Addr} {o : HO} (s : Same G H) : Same (upd G p o) (upd H p o) := fun b u e => by
  by_cases hb : b = p
  · subst hb; rw [upd_same] at e ⊢; exact e
  · rw [upd_ne hb] at e ⊢; exact s b u e
theorem Ext.alloc {G H : Hp} {p : Addr} {o : HO} (s : Same G H) (h : H p = none) : Ext G H (upd G p o) (upd H p o) where
  gg := same_upd (s.free h)
  gh := s.upd2
  hh := same_upd h
  new := fun a u h1 h2 => by
    by_cases ha : a = p
    · subst ha; exact h
    · rw [upd_ne ha, h2] at h1; cases h1
/-- something that is not of the stable part has come or changed -/
theorem _root_.L2.Same.side {G H : Hp} {p : Addr} {o : HO} (s : Same G H) (h : G p = none) : Same G (upd H p o) := fun b u e => by
  rw [upd_ne (ne_of_none e h)]; exact s b u e
/-- a thing apart stays apart -/
theorem Ext.apart {G H G' H' : Hp} (x : Ext G H G' H') {a : Addr} {o : HO} (h1 : G a = none) (h2 : H a = some o) : G' a = none ∧ H' a = some o := by
  refine ⟨?_, x.hh a o h2⟩
  cases e : G' a with
  | none => rfl
  | some u => rw [x.new a u e h1] at h2; cases h2
/-- a thing apart joins the stable part -/
theorem Ext.join {G H : Hp} {a : Addr} {o : HO} (s : Same G H) (h : H a = some o) : Same (upd G a o) H := fun b u e => by
  by_cases hb : b = a
  · subst hb; rw [upd_same] at e; rw [h]; exact e
  · rw [upd_ne hb] at e; exact s b u e

/-! ### == and in, of data -/
section
variable {X : Cx}
def rEqD : R2 := fun x y H Q => ∃ d e, At H x d ∧ At H y e ∧ min d.depth e.depth ≤ 60 ∧ Q (.bl (PyData.eqv d e)) H
def rNeD : R2 := fun x y H Q => ∃ d e, At H x d ∧ At H y e ∧ min d.depth e.depth ≤ 60 ∧ Q (.bl (!PyData.eqv d e)) H
theorem op_eqD {k : Nat} (hr : Room k X.A) : OpR X (compareOp .Eq) rEqD := by
  intro pins s σ H x y v u Q I rx ry h
  obtain ⟨d, e, h1, h2, hd, q⟩ := h
  obtain ⟨as, r1⟩ := h1.reads I.hok rx
  obtain ⟨bs, r2⟩ := h2.reads I.hok ry
  have := hr.units
  exact SeqAt.compareEq_reads r1 r2 h1.can h2.can (by (first | lia | omega)) ⟨.bl _, H, I, rfl, q⟩
theorem op_neD {k : Nat} (hr : Room k X.A) : OpR X (compareOp .NotEq) rNeD := by
  intro pins s σ H x y v u Q I rx ry h
  obtain ⟨d, e, h1, h2, hd, q⟩ := h
  obtain ⟨as, r1⟩ := h1.reads I.hok rx
  obtain ⟨bs, r2⟩ := h2.reads I.hok ry
  have := hr.units
  exact SeqAt.rcNeAt_reads r1 r2 h1.can h2.can (by (first | lia | omega)) X.prog X.w X.xe _ ⟨.bl _, H, I, rfl, q⟩
def rInD (neg : Bool) : R2 := fun x y H Q => ∃ d ds, At H x d ∧ (At H y (.list ds) ∨ At H y (.tuple ds)) ∧ d.depth ≤ 60 ∧ Q (.bl (if neg then !(ds.any fun e => PyData.eqv e d) else ds.any fun e => PyData.eqv e d)) H
theorem op_inD {k : Nat} (hr : Room k X.A) : OpR X (compareOp .In) (rInD false) := by
  intro pins s σ H x y v u Q I rx ry h
  obtain ⟨d, ds, h1, h2, hd, q⟩ := h
  obtain ⟨as, r1⟩ := h1.reads I.hok rx
  have := hr.units
  rcases h2 with h2 | h2
  · obtain ⟨bs, r2⟩ := h2.reads I.hok ry
    have c := h2.can
    rw [PyData.canLay0] at c
    exact SeqAt.in_list_reads r2 r1 c h1.can (by (first | lia | omega)) ⟨.bl _, H, I, rfl, q⟩
  · obtain ⟨bs, r2⟩ := h2.reads I.hok ry
    have c := h2.can
    rw [PyData.canLay0] at c
    exact SeqAt.in_tuple_reads r2 r1 c h1.can (by (first | lia | omega)) ⟨.bl _, H, I, rfl, q⟩
theorem op_notInD {k : Nat} (hr : Room k X.A) : OpR X (compareOp .NotIn) (rInD true) := by
  intro pins s σ H x y v u Q I rx ry h
  obtain ⟨d, ds, h1, h2, hd, q⟩ := h
  obtain ⟨as, r1⟩ := h1.reads I.hok rx
  have := hr.units
  rcases h2 with h2 | h2
  · obtain ⟨bs, r2⟩ := h2.reads I.hok ry
    have c := h2.can
    rw [PyData.canLay0] at c
    exact SeqAt.notIn_list_reads r2 r1 c h1.can (by (first | lia | omega)) ⟨.bl _, H, I, rfl, q⟩
  · obtain ⟨bs, r2⟩ := h2.reads I.hok ry
    have c := h2.can
    rw [PyData.canLay0] at c
    exact SeqAt.notIn_tuple_reads r2 r1 c h1.can (by (first | lia | omega)) ⟨.bl _, H, I, rfl, q⟩

/-! ### isinstance -/
def isInt : PyData → Bool
  | .int _ => true
  | .bool _ => true
  | _ => false
/-! ### sorted of ints -/
theorem call_sorted : CallR X (.builtin "sorted") (fun xs H Q => ∃ (p : Addr) (ns : List Int), xs = [.ref p] ∧ H p = some (.lst (ns.map V.int)) ∧ ns.length < 64 ∧ ∀ (l : Addr) (ms : List Int), H l = none → ms.Perm ns → ms.Pairwise (· ≤ ·) → Q (.ref l) (upd H l (.lst (ms.map V.int)))) := by
  intro pins s σ H xs us Q I r h
  obtain ⟨p, ns, rfl, hp, hl, q⟩ := h
  obtain ⟨u, rfl, ru⟩ := vals1 r
  cases (show u = Value.ref p from ru)
  obtain ⟨z, its, n, rv, e⟩ := (show ObjOk X.prog X.w H s.heap p (.lst (ns.map V.int)) from I.hok p _ hp)
  have hI := intsAre_of rv
  have hlen := rv.length
  rw [List.length_map] at hlen
  refine sorted_ints (l := p) (vs := its) ⟨_, e, rfl, n, rfl⟩ hI (by (first | lia | omega)) fun out ns' a1 a2 a3 => ?_
  obtain ⟨e', he⟩ := sortedAll_at s.heap its out
  have hn : H (s.heap.objs.size + 1) = none := I.hok.fresh (Nat.le_succ _)
  have hl' : ns'.length = ns.length := a2.length_eq
  refine ⟨.ref (s.heap.objs.size + 1), _, I.laid (a := s.heap.objs.size + 1) (o := .lst (ns'.map V.int)) (t' := s.toks) (fun b o q => sortedAll_old q) (Nat.le_succ _) ⟨?_, out.toList, e', vals_ints a1, ?_⟩, rfl, q _ ns' hn a2 a3⟩
  · rw [List.length_map, hl']
    exact Nat.le_of_lt (Nat.lt_of_lt_of_le hl (by decide))
  · rw [he]
end
end Fx
namespace Fx
open PySem PySem.Spec PyProof.Rows L2
/-- a thing of this call alone: it was not there at the entry, it is not in the stable part -/
structure Own (H G1 H1 : Hp) (a : Addr) (o : HO) : Prop where
  new : H a = none
  apart : G1 a = none
  is : H1 a = some o
section
variable {G H G1 H1 G2 H2 : Hp} {a p : Addr} {o u : HO}
theorem Ext.put (x : Ext G H G1 H1) (h : H1 p = none) : Ext G H (upd G1 p o) (upd H1 p o) := x.trans (Ext.alloc x.gh h)
theorem Ext.side (x : Ext G H G1 H1) (h1 : H p = none) (h2 : G1 p = none) : Ext G H G1 (upd H1 p o) :=
  ⟨x.gg, x.gh.side h2, x.hh.side h1, x.new⟩
/-- a new thing that stays apart -/
theorem Ext.lay (x : Ext G H G1 H1) (h : H1 p = none) : Ext G H G1 (upd H1 p o) := x.side (x.hh.free h) (x.gh.free h)
theorem Own.fresh (x : Ext G H G1 H1) (h : H1 p = none) : Own H G1 (upd H1 p o) p o := ⟨x.hh.free h, x.gh.free h, upd_same⟩
theorem Own.put (w : Own H G1 H1 a o) (h : H1 p = none) : Own H (upd G1 p u) (upd H1 p u) a o := by
  have ne := ne_of_none w.is h
  exact ⟨w.new, by rw [upd_ne ne]; exact w.apart, by rw [upd_ne ne]; exact w.is⟩
theorem Own.other (w : Own H G1 H1 a o) (ne : a ≠ p) : Own H G1 (upd H1 p u) a o := ⟨w.new, w.apart, by rw [upd_ne ne]; exact w.is⟩
theorem Own.lay (w : Own H G1 H1 a o) (h : H1 p = none) : Own H G1 (upd H1 p u) a o := w.other (ne_of_none w.is h)
theorem Own.set (w : Own H G1 H1 a o) : Own H G1 (upd H1 a u) a u := ⟨w.new, w.apart, upd_same⟩
theorem Own.write (x : Ext G H G1 H1) (w : Own H G1 H1 a o) : Ext G H G1 (upd H1 a u) := x.side w.new w.apart
theorem Own.ext (w : Own H G1 H1 a o) (x : Ext G1 H1 G2 H2) : Own H G2 H2 a o :=
  ⟨w.new, (x.apart w.apart w.is).1, (x.apart w.apart w.is).2⟩
theorem Own.join (x : Ext G H G1 H1) (w : Own H G1 H1 a o) : Ext G H (upd G1 a o) H1 where
  gg := x.gg.side (x.gg.free w.apart)
  gh := Ext.join x.gh w.is
  hh := x.hh
  new := fun b v h1 h2 => by
    by_cases hb : b = a
    · subst hb; exact w.new
    · rw [upd_ne hb] at h1; exact x.new b v h1 h2
theorem Own.joined (w : Own H G1 H1 a o) {b : Addr} {v : HO} (w2 : Own H G1 H1 b v) (ne : b ≠ a) : Own H (upd G1 a o) H1 b v :=
  ⟨w2.new, by rw [upd_ne ne]; exact w2.apart, w2.is⟩
end
/-- a def of the text that may be called -/
structure Cal (P : Program) (w : World) (K : PySem.W.Frag) (mg : Str → Option Value) (base : Heap) (k : Nat) (x : Str) (ps : List Str) (sp : Sp) where
  f : Addr
  fd : FuncData
  ok : FnOk P w K mg base CX0 k f fd ps sp
  mg : mg x = some (.ref f)
  kp : PySem.W.keepIn K (.ref f) = true
  b : Binds K fd ps []
/-! ### methods of lists as expressions -/
section
variable {X : Cx} {o e : Expr} {to : TE} {t : TA} {ap cp : Pos}
theorem m_append (ho : PE X o to) (ha : PA X [e] t) (hb : attributeBase o "append" X.env (eval o X.env) = eval o X.env := by rfl) (hline : (ap.endLine == cp.line) = true := by rfl) (hs : starEach [e] X.env = (false, eval e X.env) :: starEach [] X.env := by rfl) : PE X (.Call (.Attribute o "append" ap) [e] [] cp) (tBM X.K "list" rAppend to t) :=
  pe_bm F.plainAttrs_list F.slot_list_append F.type_list_append mt_append ho ha hb (by rw [hs]; rfl) hline hs
theorem tyL {K : PySem.W.Frag} {H : Hp} {a : Addr} {xs : List V} (h : H a = some (.lst xs)) : tyV K "list" (.ref a) H := .inl ⟨rfl, xs, SqL.of h⟩
end
theorem b_len : bootBuiltins "len" = some (.builtin "len") := by decide +kernel
theorem b_isinstance : bootBuiltins "isinstance" = some (.builtin "isinstance") := by decide +kernel
theorem b_sorted : bootBuiltins "sorted" = some (.builtin "sorted") := by decide +kernel
/-- the name of a built-in type, as a value -/
theorem pe_ty {X : Cx} (T : String) {x : Str} {pos : Pos} (hg : Gl X x) (hm : X.mg x = none) (hv : bootBuiltins x = some (.type T)) (hn : x ≠ "__name__" := by decide +kernel) (hd : (x == ("__debug__" : Str)) = false := by decide +kernel) : PE X (.Name x pos) (tC (.ty T)) :=
  pe_bltn hg hm hv rfl hn hd
/-! ### lanes, boards as data -/
def laneD (l : Int × Int) : PyData := .tuple [.int l.1, .int l.2]
def boardD (B : Brd) : PyData := .tuple [.int B.n, .list (B.lanes.map laneD), .list (B.coops.map .int)]
theorem lane_depth (l : Int × Int) : (laneD l).depth ≤ 60 := by simp [laneD, PyData.depth, PyData.depthAll]
theorem eqv_lane (a b : Int × Int) : PyData.eqv (laneD a) (laneD b) = decide (a = b) := by
  obtain ⟨a1, a2⟩ := a
  obtain ⟨b1, b2⟩ := b
  simp only [laneD, PyData.eqv, PyData.eqvAll, Bool.and_true]
  by_cases h : a1 = b1 <;> by_cases h' : a2 = b2 <;> simp [h, h']
theorem any_lane (ls : List (Int × Int)) (l : Int × Int) : (ls.map laneD).any (fun e => PyData.eqv e (laneD l)) = decide (l ∈ ls) := by
  induction ls with
  | nil => simp
  | cons a r ih =>
    rw [List.map_cons, List.any_cons, ih, eqv_lane]
    by_cases h : a = l
    · subst h; simp
    · have h' : ¬ l = a := fun e => h e.symm
      simp [h, h']
/-! ### sizes of data; data without bools -/
mutual
def sz : PyData → Nat
  | .list xs => szs xs + 1
  | .tuple xs => szs xs + 1
  | _ => 1
def szs : List PyData → Nat
  | [] => 0
  | d :: r => sz d + szs r
end
mutual
def noB : PyData → Bool
  | .bool _ => false
  | .dict _ => false
  | .list xs => noBs xs
  | .tuple xs => noBs xs
  | _ => true
def noBs : List PyData → Bool
  | [] => true
  | d :: r => noB d && noBs r
end
/-! ### comprehensions over a list, over a range -/
theorem comp_list {K : PySem.W.Frag} {a D : Addr} {xs : List V} {g : TG} {tt : TT} {te : TE} {R : Hp → Prop} {τ0 : L2.St} {H : Hp} (Pv : Nat → L2.St → Hp → Prop) (h0 : Pv 0 τ0 H) (hl : ∀ i τ H, i ≤ xs.length → Pv i τ H → SqL K H a xs)
    (hs : ∀ i x τ H, xs[i]? = some x → Pv i τ H → g x τ H fun τ2 H3 => tt τ2 H3 fun b H4 => if b = true then te τ2 H4 fun y H5 => ∃ ys, H5 D = some (.lst ys) ∧ ys.length < sizeLine ∧ Pv (i + 1) τ2 (upd H5 D (.lst (ys ++ [y]))) else Pv (i + 1) τ2 H4)
    (hd : ∀ τ H, Pv xs.length τ H → R H) :
    ∃ W : Nat → Nat → L2.St → Hp → Prop, (∃ m, W 0 m τ0 H) ∧ ∀ i m τ H2, W i m τ H2 →
      ((Itl K a).stop i H2 ∧ R H2) ∨ ((Itl K a).go i H2 ∧ ∃ N : L2.St → Hp → Prop, (∀ τ' H', N τ' H' → ∃ m', m' < m ∧ W (i + 1) m' τ' H') ∧
        ∀ x H', (Itl K a).yld i H2 x H' → g x τ H' fun τ2 H3 => tt τ2 H3 fun b H4 => if b = true then te τ2 H4 fun y H5 => ∃ ys, H5 D = some (.lst ys) ∧ ys.length < sizeLine ∧ N τ2 (upd H5 D (.lst (ys ++ [y]))) else N τ2 H4) := by
  refine ⟨fun i m τ H => m = xs.length - i ∧ i ≤ xs.length ∧ Pv i τ H, ⟨xs.length, by simp, Nat.zero_le _, h0⟩, ?_⟩
  rintro i m τ H ⟨rfl, hi, p⟩
  have q := hl i τ H hi p
  by_cases hlt : i < xs.length
  · refine .inr ⟨⟨xs, xs[i], q, by simp [hlt]⟩, Pv (i + 1), fun σ' H' p' => ⟨xs.length - (i + 1), by (first | lia | omega), rfl, hlt, p'⟩, fun x H' y => ?_⟩
    obtain ⟨e, y⟩ := y
    subst e
    exact hs i x τ _ (y xs q) p
  · have e : i = xs.length := by (first | lia | omega)
    subst e
    exact .inl ⟨⟨xs, q, Nat.le_refl _⟩, hd τ H p⟩
theorem comp_range {D : Addr} {lo : Int} {n : Nat} {g : TG} {tt : TT} {te : TE} {R : Hp → Prop} {τ0 : L2.St} {H : Hp} (Pv : Nat → L2.St → Hp → Prop) (h0 : Pv 0 τ0 H)
    (hs : ∀ i τ H, i < n → Pv i τ H → g (.int (lo + i)) τ H fun τ2 H3 => tt τ2 H3 fun b H4 => if b = true then te τ2 H4 fun y H5 => ∃ ys, H5 D = some (.lst ys) ∧ ys.length < sizeLine ∧ Pv (i + 1) τ2 (upd H5 D (.lst (ys ++ [y]))) else Pv (i + 1) τ2 H4)
    (hd : ∀ τ H, Pv n τ H → R H) :
    ∃ W : Nat → Nat → L2.St → Hp → Prop, (∃ m, W 0 m τ0 H) ∧ ∀ i m τ H2, W i m τ H2 →
      ((Itr lo n).stop i H2 ∧ R H2) ∨ ((Itr lo n).go i H2 ∧ ∃ N : L2.St → Hp → Prop, (∀ τ' H', N τ' H' → ∃ m', m' < m ∧ W (i + 1) m' τ' H') ∧
        ∀ x H', (Itr lo n).yld i H2 x H' → g x τ H' fun τ2 H3 => tt τ2 H3 fun b H4 => if b = true then te τ2 H4 fun y H5 => ∃ ys, H5 D = some (.lst ys) ∧ ys.length < sizeLine ∧ N τ2 (upd H5 D (.lst (ys ++ [y]))) else N τ2 H4) := by
  refine ⟨fun i m τ H => m = n - i ∧ i ≤ n ∧ Pv i τ H, ⟨n, by simp, Nat.zero_le _, h0⟩, ?_⟩
  rintro i m τ H ⟨rfl, hi, p⟩
  by_cases hlt : i < n
  · refine .inr ⟨hlt, Pv (i + 1), fun σ' H' p' => ⟨n - (i + 1), by (first | lia | omega), rfl, hlt, p'⟩, fun x H' y => ?_⟩
    obtain ⟨e, y⟩ := y
    subst e y
    exact hs i τ _ hlt p
  · have e : i = n := by (first | lia | omega)
    subst e
    exact .inl ⟨Nat.le_refl _, hd τ H p⟩
/-! ### small things -/
theorem decV (i j : Int) : decide (V.int i = V.int j) = decide (i = j) := by
  by_cases h : i = j
  · rw [decide_eq_true h, decide_eq_true (by rw [h])]
  · rw [decide_eq_false h, decide_eq_false fun e => h (V.int.inj e)]
/-- a and b, as a value -/
theorem iteQ {c b2 : Bool} {A : Prop} {Q : V → Hp → Prop} {H : Hp} (hA : Q (.bl b2) H → A) (h : Q (.bl (c && b2)) H) : if c = true then A else Q (.bl false) H := by
  cases c with
  | true => exact iteT (hA h)
  | false => exact iteF h
theorem atI_int {ns : List Int} {k : Nat} (h : k < ns.length) : atI (ns.map V.int) (k : Int) = some (.int (atD ns k)) := by
  refine atI_nat ?_
  rw [List.getElem?_map, List.getElem?_eq_getElem h]
  unfold atD
  rw [List.getD_eq_getElem?_getD, List.getElem?_eq_getElem h]
  rfl
theorem atI_toNat {ns : List Int} {i : Int} (h0 : 0 ≤ i) (h : i.toNat < ns.length) : atI (ns.map V.int) i = some (.int (atD ns i.toNat)) := by
  have e : ((i.toNat : Nat) : Int) = i := by (first | lia | omega)
  have := atI_int h
  rw [e] at this
  exact this
theorem At.lane {H : Hp} {v : V} {l : Int × Int} (h : At H v (laneD l)) : ∃ q, v = .ref q ∧ H q = some (.tup [.int l.1, .int l.2]) := by
  cases h with
  | tup e t =>
    cases t with
    | cons a t =>
      cases t with
      | cons b t =>
        cases t
        cases a
        cases b
        exact ⟨_, rfl, e⟩
theorem At.board {H : Hp} {v : V} {B : Brd} (h : At H v (boardD B)) : ∃ p la ca ls, v = .ref p ∧ H p = some (.tup [.int B.n, .ref la, .ref ca]) ∧ H la = some (.lst ls) ∧ AtAll H ls (B.lanes.map laneD) ∧ H ca = some (.lst (B.coops.map V.int)) := by
  cases h with
  | tup e t =>
    cases t with
    | cons a t =>
      cases t with
      | cons b t =>
        cases t with
        | cons c t =>
          cases t
          cases a
          cases b with
          | lst eb tb =>
            cases c with
            | lst ec tc =>
              have := tc.ints_of
              subst this
              exact ⟨_, _, _, _, rfl, e, eb, tb, ec⟩
theorem cut500 {ns : List Int} (h : ns.length ≤ 63) : cutV (ns.map V.int) none (some 500) = ns.map V.int := by
  unfold cutV
  have e : HT.sIx (ns.map V.int).length (ns.map V.int).length (some 500) = (ns.map V.int).length := by
    have := HT.sIx_nat (ns.map V.int).length (ns.map V.int).length 500
    rw [show ((500 : Nat) : Int) = 500 from rfl] at this
    rw [this, List.length_map]
    (first | lia | omega)
  rw [e, HT.sIx_none, List.drop_zero, Nat.sub_zero, List.take_length]
theorem waysL_take {lanes : List (Int × Int)} {y : Int} {i : Nat} {l : Int × Int} (h : lanes[i]? = some l) : waysL (lanes.take (i + 1)) y = waysL (lanes.take i) y ++ (if l.1 = y then [l.2] else []) := by
  unfold waysL
  rw [List.take_add_one, h]
  show ((lanes.take i ++ [l]).filter _).map _ = _
  rw [List.filter_append, List.map_append]
  congr 1
  by_cases e : l.1 = y
  · rw [if_pos e, List.filter_cons, if_pos (decide_eq_true e)]; rfl
  · rw [if_neg e, List.filter_cons, if_neg (fun z => e (of_decide_eq_true z))]; rfl
theorem waysL_len (lanes : List (Int × Int)) (y : Int) : (waysL lanes y).length ≤ lanes.length := by
  unfold waysL
  rw [List.length_map]
  exact List.length_filter_le _ _
/-! ### the rules that speak of the written part, by its name -/
section
variable {X : Cx} {K : PySem.W.Frag} {o e l tg : Expr} {to tl : TE} {t : TA} {ap cp : Pos}
theorem ix_K (h : X.K = K) : IxR X (rIx K) := by subst h; exact ix_seq
theorem len_K (h : X.K = K) : CallR X (.builtin "len") (fun xs H Q => ∃ p ys, xs = [.ref p] ∧ (SqL K H p ys ∨ SqT K H p ys) ∧ Q (.int ys.length) H) := by subst h; exact call_len_seq
theorem sl_K (h : X.K = K) : SlR X (rSlL K) := by subst h; exact sl_list
theorem pi_K (h : X.K = K) (hl : PE X l tl) : PI X tg l (iList K tl) := by subst h; exact pi_list hl
theorem append_K (h : X.K = K) (ho : PE X o to) (ha : PA X [e] t) (hb : attributeBase o "append" X.env (eval o X.env) = eval o X.env := by rfl) (hline : (ap.endLine == cp.line) = true := by rfl) (hs : starEach [e] X.env = (false, eval e X.env) :: starEach [] X.env := by rfl) : PE X (.Call (.Attribute o "append" ap) [e] [] cp) (tBM K "list" rAppend to t) := by
  subst h; exact m_append ho ha hb hline hs
end
theorem few {n : Nat} (h : n ≤ 1000) : n ≤ sizeLine := Nat.le_of_lt (small1000 h)
end Fx

set_option linter.all false
namespace Fx
/-! ### the game on a board -/
structure Plc where
  f : Int
  h : Int
  t : Bool
  deriving DecidableEq
def yardOf (p : Plc) : Int := if p.t = true then p.f else p.h
def waysB (B : Brd) (p : Plc) : List Int := waysL B.lanes (yardOf p)
def winAt (B : Brd) (p : Plc) : Option Bool := if p.f = p.h then some true else if p.h ∈ B.coops then some false else if waysB B p = [] then some (!p.t) else none
def nxt (p : Plc) (y : Int) : Plc := if p.t = true then ⟨y, p.h, false⟩ else ⟨p.f, y, true⟩
def gameOf (B : Brd) : Game Plc := ⟨winAt B, (·.t), fun p => (waysB B p).map (nxt p)⟩
def posAt (n k : Nat) : Plc := ⟨((k / (2 * n) : Nat) : Int), ((k / 2 % n : Nat) : Int), decide (k % 2 = 0)⟩
def allPos (n : Nat) : List Plc := (List.range (2 * n * n)).map (posAt n)
structure InB (n : Nat) (p : Plc) : Prop where
  f0 : 0 ≤ p.f
  f1 : p.f < (n : Int)
  h0 : 0 ≤ p.h
  h1 : p.h < (n : Int)
theorem posAt_in {n k : Nat} (hk : k < 2 * n * n) : InB n (posAt n k) := by
  have hn : 0 < n := by
    cases n with
    | zero => simp at hk
    | succ n => (first | lia | omega)
  refine ⟨Int.natCast_nonneg _, ?_, Int.natCast_nonneg _, ?_⟩
  · show ((k / (2 * n) : Nat) : Int) < n
    have : k / (2 * n) < n := Nat.div_lt_of_lt_mul hk
    (first | lia | omega)
  · show ((k / 2 % n : Nat) : Int) < n
    have : k / 2 % n < n := Nat.mod_lt _ hn
    (first | lia | omega)
/-- the place of a position in their order -/
def ixOf (n : Nat) (p : Plc) : Nat := p.f.toNat * (2 * n) + (2 * p.h.toNat + (if p.t = true then 0 else 1))
theorem ixOf_lt {n : Nat} {p : Plc} (h : InB n p) : ixOf n p < 2 * n * n := by
  obtain ⟨h1, h2, h3, h4⟩ := h
  have a : p.f.toNat + 1 ≤ n := by (first | lia | omega)
  have b : 2 * p.h.toNat + (if p.t = true then 0 else 1) < 2 * n := by split <;> (first | lia | omega)
  have c : (p.f.toNat + 1) * (2 * n) ≤ n * (2 * n) := Nat.mul_le_mul_right _ a
  rw [Nat.add_mul, Nat.one_mul] at c
  unfold ixOf
  rw [Nat.mul_comm (2 * n) n]
  (first | lia | omega)
theorem posAt_ixOf {n : Nat} {p : Plc} (h : InB n p) : posAt n (ixOf n p) = p := by
  obtain ⟨h1, h2, h3, h4⟩ := h
  obtain ⟨f, hh, t⟩ := p
  simp only at h1 h2 h3 h4
  have hn : 0 < n := by (first | lia | omega)
  have b : 2 * hh.toNat + (if t = true then 0 else 1) < 2 * n := by split <;> (first | lia | omega)
  unfold posAt ixOf
  simp only
  have e1 : (f.toNat * (2 * n) + (2 * hh.toNat + (if t = true then 0 else 1))) / (2 * n) = f.toNat := by
    rw [Nat.mul_comm, Nat.mul_add_div (by (first | lia | omega)), Nat.div_eq_of_lt b, Nat.add_zero]
  have e2 : (f.toNat * (2 * n) + (2 * hh.toNat + (if t = true then 0 else 1))) / 2 = f.toNat * n + hh.toNat := by
    have : f.toNat * (2 * n) = 2 * (f.toNat * n) := by rw [Nat.mul_left_comm]
    rw [this]
    split <;> (first | lia | omega)
  have e3 : (f.toNat * n + hh.toNat) % n = hh.toNat := by
    rw [Nat.mul_comm, Nat.mul_add_mod]
    exact Nat.mod_eq_of_lt (by (first | lia | omega))
  have e4 : (f.toNat * (2 * n) + (2 * hh.toNat + (if t = true then 0 else 1))) % 2 = if t = true then 0 else 1 := by
    have : f.toNat * (2 * n) = 2 * (f.toNat * n) := by rw [Nat.mul_left_comm]
    rw [this]
    split <;> (first | lia | omega)
  rw [e1, e2, e3, e4]
  congr 1
  · (first | lia | omega)
  · (first | lia | omega)
  · cases t <;> simp
theorem mem_allPos {n : Nat} {p : Plc} : p ∈ allPos n ↔ InB n p := by
  unfold allPos
  constructor
  · intro h
    obtain ⟨k, hk, rfl⟩ := List.mem_map.mp h
    exact posAt_in (List.mem_range.mp hk)
  · intro h
    exact List.mem_map.mpr ⟨ixOf n p, List.mem_range.mpr (ixOf_lt h), posAt_ixOf h⟩
theorem allPos_len (n : Nat) : (allPos n).length = 2 * n * n := by unfold allPos; rw [List.length_map, List.length_range]
theorem posAt_inj {n i j : Nat} (hi : i < 2 * n * n) (hj : j < 2 * n * n) (h : posAt n i = posAt n j) : i = j := by
  have hn : 0 < n := by
    cases n with
    | zero => simp at hi
    | succ n => (first | lia | omega)
  unfold posAt at h
  injection h with h1 h2 h3
  have h1 : i / (2 * n) = j / (2 * n) := by (first | lia | omega)
  have h2 : i / 2 % n = j / 2 % n := by (first | lia | omega)
  have h3 : i % 2 = j % 2 := by
    by_cases a : i % 2 = 0 <;> by_cases b : j % 2 = 0 <;> simp [a, b] at h3 <;> (first | lia | omega)
  have e : ∀ k : Nat, k / (2 * n) = k / 2 / n := fun k => (Nat.div_div_eq_div_mul k 2 n).symm
  rw [e, e] at h1
  have hi2 := Nat.div_add_mod (i / 2) n
  have hj2 := Nat.div_add_mod (j / 2) n
  rw [h1, h2] at hi2
  (first | lia | omega)
theorem allPos_nodup (n : Nat) : (allPos n).Nodup := by
  unfold allPos List.Nodup
  rw [List.pairwise_map]
  refine List.Pairwise.imp_of_mem ?_ List.nodup_range
  intro a b ha hb hab e
  exact hab (posAt_inj (List.mem_range.mp ha) (List.mem_range.mp hb) e)
theorem way_in {B : Brd} (g : Good B) {p : Plc} {y : Int} (h : y ∈ waysB B p) : 0 ≤ y ∧ y < (B.n : Int) := by
  have := g.rng _ (mem_waysL.mp h)
  exact this.2
theorem nxt_in {n : Nat} {p : Plc} {y : Int} (h : InB n p) (hy : 0 ≤ y ∧ y < (n : Int)) : InB n (nxt p y) := by
  unfold nxt
  split
  · exact ⟨hy.1, hy.2, h.h0, h.h1⟩
  · exact ⟨h.f0, h.f1, hy.1, hy.2⟩
theorem goes (B : Brd) : Goes (gameOf B) := by
  intro p h
  show (waysB B p).map (nxt p) ≠ []
  have h : winAt B p = none := h
  unfold winAt at h
  split at h
  · cases h
  · split at h
    · cases h
    · split at h
      · cases h
      · rename_i z
        simpa using z
theorem closed {B : Brd} (g : Good B) : Closed (gameOf B) (allPos B.n) := by
  refine ⟨goes B, fun p hp q hq => ?_⟩
  obtain ⟨y, hy, rfl⟩ := List.mem_map.mp (show q ∈ (waysB B p).map (nxt p) from hq)
  exact mem_allPos.mpr (nxt_in (mem_allPos.mp hp) (way_in g hy))
/-- the verdict on a position: who wins in how many moves, or none -/
def verd (B : Brd) (p : Plc) : Val := fin (gameOf B) (allPos B.n) p
end Fx

set_option linter.all false
namespace Fx
/-! ### numbers in rising order -/
def insI (a : Int) : List Int → List Int
  | [] => [a]
  | b :: l => if a ≤ b then a :: b :: l else b :: insI a l
def srt : List Int → List Int
  | [] => []
  | a :: l => insI a (srt l)
theorem insI_perm (a : Int) : ∀ l, (insI a l).Perm (a :: l)
  | [] => .refl _
  | b :: l => by
    unfold insI
    split
    · exact .refl _
    · exact ((insI_perm a l).cons b).trans (.swap a b l)
theorem srt_perm : ∀ l, (srt l).Perm l
  | [] => .refl _
  | a :: l => (insI_perm a (srt l)).trans ((srt_perm l).cons a)
theorem insI_sorted (a : Int) : ∀ {l : List Int}, l.Pairwise (· ≤ ·) → (insI a l).Pairwise (· ≤ ·)
  | [], _ => List.pairwise_singleton _ _
  | b :: l, h => by
    obtain ⟨h1, h2⟩ := List.pairwise_cons.mp h
    unfold insI
    split
    · rename_i hab
      refine List.pairwise_cons.mpr ⟨fun c hc => ?_, h⟩
      rcases List.mem_cons.mp hc with rfl | hc
      · exact hab
      · have := h1 c hc
        (first | lia | omega)
    · rename_i hab
      refine List.pairwise_cons.mpr ⟨fun c hc => ?_, insI_sorted a h2⟩
      rcases List.mem_cons.mp ((insI_perm a l).mem_iff.mp hc) with rfl | hc
      · (first | lia | omega)
      · exact h1 c hc
theorem srt_sorted : ∀ l, (srt l).Pairwise (· ≤ ·)
  | [] => .nil
  | a :: l => insI_sorted a (srt_sorted l)
theorem sorted_eq : ∀ {l m : List Int}, l.Perm m → l.Pairwise (· ≤ ·) → m.Pairwise (· ≤ ·) → l = m
  | [], m, p, _, _ => by
    cases m with
    | nil => rfl
    | cons b m => exact absurd p.length_eq (by simp)
  | a :: l, m, p, h1, h2 => by
    cases m with
    | nil => exact absurd p.length_eq (by simp)
    | cons b m =>
      obtain ⟨h3, h4⟩ := List.pairwise_cons.mp h1
      obtain ⟨h5, h6⟩ := List.pairwise_cons.mp h2
      have e : a = b := by
        have ha : a ∈ b :: m := p.mem_iff.mp List.mem_cons_self
        have hb : b ∈ a :: l := p.mem_iff.mpr List.mem_cons_self
        rcases List.mem_cons.mp ha with z | z
        · exact z
        · have := h5 a z
          rcases List.mem_cons.mp hb with y | y
          · exact y.symm
          · have := h3 b y
            (first | lia | omega)
      subst e
      rw [sorted_eq (List.Perm.cons_inv p) h4 h6]
theorem srt_of {l m : List Int} (h : m.Perm l) (hs : m.Pairwise (· ≤ ·)) : m = srt l := sorted_eq (h.trans (srt_perm l).symm) hs (srt_sorted l)
theorem srt_mem {l : List Int} {a : Int} : a ∈ srt l ↔ a ∈ l := (srt_perm l).mem_iff
theorem srt_len (l : List Int) : (srt l).length = l.length := (srt_perm l).length_eq
theorem srt_head {l : List Int} {f : Int → Bool} {a : Int} {r : List Int} (h : (srt l).filter f = a :: r) : a ∈ l ∧ f a = true ∧ ∀ z ∈ l, f z = true → a ≤ z := by
  have hm : a ∈ (srt l).filter f := by rw [h]; exact List.mem_cons_self
  obtain ⟨h1, h2⟩ := List.mem_filter.mp hm
  refine ⟨srt_mem.mp h1, h2, fun z hz hf => ?_⟩
  have hzm : z ∈ (srt l).filter f := List.mem_filter.mpr ⟨srt_mem.mpr hz, hf⟩
  have so : ((srt l).filter f).Pairwise (· ≤ ·) := (srt_sorted l).filter _
  rw [h] at hzm so
  rcases List.mem_cons.mp hzm with rfl | y
  · exact Int.le_refl _
  · exact (List.pairwise_cons.mp so).1 z y
/-! ### the ways of a position, rising; the positions behind it -/
def waysS (B : Brd) (p : Plc) : List Int := srt (waysB B p)
def behS (B : Brd) (p : Plc) : List Plc := (waysS B p).map (nxt p)
theorem mem_beh {B : Brd} {p q : Plc} : q ∈ behS B p ↔ q ∈ (gameOf B).mv p := by
  show q ∈ (srt (waysB B p)).map (nxt p) ↔ q ∈ (waysB B p).map (nxt p)
  rw [List.mem_map, List.mem_map]
  constructor
  · rintro ⟨y, hy, e⟩; exact ⟨y, srt_mem.mp hy, e⟩
  · rintro ⟨y, hy, e⟩; exact ⟨y, srt_mem.mpr hy, e⟩
theorem beh_len (B : Brd) (p : Plc) : (behS B p).length = (waysB B p).length := by
  unfold behS waysS
  rw [List.length_map, srt_len]
/-! ### which side has won by the positions behind -/
def sidesOf (k : Plc → Val) (qs : List Plc) : List Bool := qs.filterMap fun q => (k q).map (·.1)
def sideB (k : Plc → Val) (t : Bool) (qs : List Plc) : Option Bool := if t ∈ sidesOf k qs then some t else if (sidesOf k qs).length = qs.length then some (!t) else none
theorem mem_sides {k : Plc → Val} {qs : List Plc} {t : Bool} : t ∈ sidesOf k qs ↔ ∃ q ∈ qs, ∃ n, k q = some (t, n) := by
  unfold sidesOf
  rw [List.mem_filterMap]
  constructor
  · rintro ⟨q, hq, e⟩
    cases ek : k q with
    | none => rw [ek] at e; cases e
    | some w =>
      obtain ⟨s, n⟩ := w
      rw [ek] at e
      have e : s = t := Option.some.inj e
      subst e
      exact ⟨q, hq, n, ek⟩
  · rintro ⟨q, hq, n, e⟩
    exact ⟨q, hq, by rw [e]; rfl⟩
theorem sides_full {k : Plc → Val} {qs : List Plc} : (sidesOf k qs).length = qs.length ↔ ∀ q ∈ qs, k q ≠ none := by
  obtain ⟨h1, h2⟩ := fm_len (fun q => (k q).map (·.1)) qs
  constructor
  · intro e q hq z
    have : (sidesOf k qs).length < qs.length := h2.mpr ⟨q, hq, by rw [z]; rfl⟩
    (first | lia | omega)
  · intro h
    have : ¬ (sidesOf k qs).length < qs.length := fun z => by
      obtain ⟨q, hq, e⟩ := h2.mp z
      refine h q hq ?_
      cases ek : k q with
      | none => rfl
      | some w => rw [ek] at e; cases e
    have h1 : (sidesOf k qs).length ≤ qs.length := h1
    (first | lia | omega)
theorem side_val {B : Brd} {k : Plc → Val} {p : Plc} (hne : waysB B p ≠ []) : sideB k p.t (behS B p) = (valueOf (gameOf B) k p).map (·.1) := by
  have hmv : (gameOf B).mv p ≠ [] := by
    show (waysB B p).map (nxt p) ≠ []
    simpa using hne
  unfold sideB
  cases e : valueOf (gameOf B) k p with
  | none =>
    obtain ⟨h1, q, hq, eq⟩ := valueOf_none.mp e
    rw [if_neg, if_neg]
    · rfl
    · intro z
      exact sides_full.mp z q (mem_beh.mpr hq) eq
    · intro z
      obtain ⟨q', hq', n, e'⟩ := mem_sides.mp z
      exact h1 q' (mem_beh.mp hq') n e'
  | some v =>
    rcases valueOf_some e hmv with ⟨n, rfl, hw⟩ | ⟨n, rfl, hl⟩
    · obtain ⟨q, hq, eq⟩ := hw.has
      rw [if_pos (show p.t ∈ sidesOf k (behS B p) from mem_sides.mpr ⟨q, mem_beh.mpr hq, n, eq⟩)]
      rfl
    · have all : ∀ q ∈ (gameOf B).mv p, ∃ m, k q = some (!p.t, m) := fun q hq => by
        obtain ⟨m, em, _⟩ := hl.all q hq
        exact ⟨m, em⟩
      rw [if_neg, if_pos]
      · rfl
      · refine sides_full.mpr fun q hq z => ?_
        obtain ⟨m, em⟩ := all q (mem_beh.mp hq)
        rw [em] at z
        cases z
      · intro z
        obtain ⟨q', hq', n', e'⟩ := mem_sides.mp z
        obtain ⟨m, em⟩ := all q' (mem_beh.mp hq')
        rw [em] at e'
        injection e' with e'
        injection e' with e' _
        exact absurd e' (not_self p.t)
/-! ### the rounds of the program -/
def kQ (B : Brd) (r : Nat) (p : Plc) : Val := if p ∈ allPos B.n then Kn (gameOf B) r p else none
theorem kQ_in {B : Brd} {r : Nat} {p : Plc} (h : p ∈ allPos B.n) : kQ B r p = Kn (gameOf B) r p := if_pos h
theorem kQ_out {B : Brd} {r : Nat} {p : Plc} (h : p ∉ allPos B.n) : kQ B r p = none := if_neg h
/-- the positions at which the game goes on -/
def goB (B : Brd) : List Plc := (allPos B.n).filter fun p => (winAt B p).isNone
theorem mem_go {B : Brd} {p : Plc} : p ∈ goB B ↔ p ∈ allPos B.n ∧ winAt B p = none := by
  unfold goB
  rw [List.mem_filter, Option.isNone_iff_eq_none]
theorem go_nodup (B : Brd) : (goB B).Nodup := (allPos_nodup B.n).filter _
theorem go_ways {B : Brd} {p : Plc} (h : winAt B p = none) : waysB B p ≠ [] := fun z => goes B p h (by show (waysB B p).map (nxt p) = []; rw [z]; rfl)
theorem valueOf_kQ {B : Brd} (g : Good B) {r : Nat} {p : Plc} (h : p ∈ allPos B.n) : valueOf (gameOf B) (kQ B r) p = valueOf (gameOf B) (Kn (gameOf B) r) p := by
  have e : ((gameOf B).mv p).filterMap (kQ B r) = ((gameOf B).mv p).filterMap (Kn (gameOf B) r) := fm_congr fun q hq => kQ_in ((closed g).stays p h q hq)
  unfold valueOf
  rw [e]
theorem side_new {B : Brd} (g : Good B) {r : Nat} {p : Plc} (h : p ∈ goB B) (hk : Kn (gameOf B) r p = none) : sideB (kQ B r) p.t (behS B p) = (Kn (gameOf B) (r + 1) p).map (·.1) := by
  obtain ⟨h1, h2⟩ := mem_go.mp h
  rw [side_val (go_ways h2), valueOf_kQ g h1, Kn_new hk]
/-- those that are new in a round -/
def isNew (B : Brd) (r : Nat) (p : Plc) : Bool := (Kn (gameOf B) r p).isNone && (Kn (gameOf B) (r + 1) p).isSome
def newQ (B : Brd) (r : Nat) : List Plc := (goB B).filter (isNew B r)
theorem mem_new {B : Brd} {r : Nat} {p : Plc} : p ∈ newQ B r ↔ p ∈ goB B ∧ Kn (gameOf B) r p = none ∧ ∃ s, Kn (gameOf B) (r + 1) p = some (s, r + 1) := by
  unfold newQ isNew
  rw [List.mem_filter, Bool.and_eq_true, Option.isNone_iff_eq_none]
  constructor
  · rintro ⟨h1, h2, h3⟩
    obtain ⟨⟨s, n⟩, e⟩ := isSome_some h3
    refine ⟨h1, h2, s, ?_⟩
    obtain ⟨c1, c2⟩ := Kn_count (goes B) (r + 1) p s n e
    have : n = r + 1 := by
      refine Classical.byContradiction fun z => ?_
      have := Kn_mono c2 (show n ≤ r by (first | lia | omega))
      rw [h2] at this
      cases this
    rw [e, this]
  · rintro ⟨h1, h2, s, h3⟩
    exact ⟨h1, h2, by rw [h3]; rfl⟩
theorem new_nodup (B : Brd) (r : Nat) : (newQ B r).Nodup := (go_nodup B).filter _
/-- known while the round's finds are written -/
def kS (B : Brd) (r j : Nat) (q : Plc) : Val := if q ∈ (newQ B r).take j then Kn (gameOf B) (r + 1) q else kQ B r q
theorem kS_zero (B : Brd) (r : Nat) (q : Plc) : kS B r 0 q = kQ B r q := by
  unfold kS
  rw [List.take_zero, if_neg (fun z => nomatch z)]
theorem take_nw {α : Type} {l : List α} (hn : l.Nodup) {i : Nat} {x : α} (h : l[i]? = some x) : x ∉ l.take i := by
  intro z
  obtain ⟨hi, e⟩ := List.getElem?_eq_some_iff.mp h
  obtain ⟨j, hj, ej⟩ := List.mem_iff_getElem.mp z
  rw [List.length_take] at hj
  rw [List.getElem_take] at ej
  exact List.pairwise_iff_getElem.mp hn j i (by (first | lia | omega)) hi (by (first | lia | omega)) (ej.trans e.symm)
theorem take_mm {α : Type} {l : List α} {i : Nat} {x : α} (h : l[i]? = some x) (q : α) : q ∈ l.take (i + 1) ↔ q = x ∨ q ∈ l.take i := by
  rw [List.take_add_one, h]
  simp [or_comm]
theorem kS_old {B : Brd} {r j : Nat} {p : Plc} (h : (newQ B r)[j]? = some p) : kS B r j p = none := by
  obtain ⟨h1, h2, _⟩ := mem_new.mp (List.mem_of_getElem? h)
  unfold kS
  rw [if_neg (take_nw (new_nodup B r) h), kQ_in (mem_go.mp h1).1]
  exact h2
theorem kS_step {B : Brd} {r j : Nat} {p : Plc} {s : Bool} (h : (newQ B r)[j]? = some p) (hs : Kn (gameOf B) (r + 1) p = some (s, r + 1)) (q : Plc) : (if q = p then some (s, r + 1) else kS B r j q) = kS B r (j + 1) q := by
  have e := take_mm h q
  unfold kS
  by_cases z : q = p
  · subst z
    rw [if_pos rfl, if_pos (e.mpr (.inl rfl)), hs]
  · rw [if_neg z]
    by_cases z2 : q ∈ (newQ B r).take j
    · rw [if_pos z2, if_pos (e.mpr (.inr z2))]
    · rw [if_neg z2, if_neg (fun y => (e.mp y).elim z z2)]
theorem kS_in {B : Brd} {r j : Nat} {q : Plc} (h : (kS B r j q).isSome = true) : q ∈ allPos B.n := by
  refine Classical.byContradiction fun z => ?_
  unfold kS at h
  rw [kQ_out z, if_neg] at h
  · cases h
  · intro y
    exact z (mem_go.mp (mem_new.mp (List.mem_of_mem_take y)).1).1
theorem Kn_go {B : Brd} {r : Nat} {p : Plc} (h : Kn (gameOf B) r p = none) : winAt B p = none := Kn_nowin h
theorem kS_end (B : Brd) (r : Nat) (q : Plc) : kS B r (newQ B r).length q = kQ B (r + 1) q := by
  unfold kS
  rw [List.take_length]
  by_cases hq : q ∈ allPos B.n
  · rw [kQ_in hq, kQ_in hq]
    by_cases z : q ∈ newQ B r
    · rw [if_pos z]
    · rw [if_neg z]
      cases e : Kn (gameOf B) r q with
      | some v => rw [Kn_succ e]
      | none =>
        cases e2 : Kn (gameOf B) (r + 1) q with
        | none => rfl
        | some v =>
          refine absurd ?_ z
          unfold newQ isNew
          refine List.mem_filter.mpr ⟨mem_go.mpr ⟨hq, Kn_go e⟩, ?_⟩
          rw [e, e2]
          rfl
  · rw [kQ_out hq, kQ_out hq, if_neg]
    intro z
    exact hq (mem_go.mp (mem_new.mp z).1).1
theorem rest_Q {B : Brd} {r : Nat} (h : newQ B r = []) : ∀ p ∈ allPos B.n, Kn (gameOf B) (r + 1) p = Kn (gameOf B) r p := by
  intro p hp
  have e := kS_end B r p
  rw [h] at e
  rw [← kQ_in hp, ← kQ_in (r := r) hp, ← e]
  exact kS_zero B r p
/-- the verdicts upon the board alone -/
def kF (B : Brd) (p : Plc) : Val := if p ∈ allPos B.n then verd B p else none
theorem kF_in {B : Brd} {p : Plc} (h : p ∈ allPos B.n) : kF B p = verd B p := if_pos h
theorem kF_rest {B : Brd} (g : Good B) {r : Nat} (h : newQ B r = []) (p : Plc) : kQ B r p = kF B p := by
  by_cases hp : p ∈ allPos B.n
  · rw [kQ_in hp, kF_in hp]
    exact fin_stop (closed g) (rest_Q h) p hp
  · rw [kQ_out hp]
    unfold kF
    rw [if_neg hp]
def leftN (B : Brd) (r : Nat) : Nat := ((allPos B.n).filter fun p => (Kn (gameOf B) r p).isNone).length
theorem leftN_lt {B : Brd} {r : Nat} (h : newQ B r ≠ []) : leftN B (r + 1) < leftN B r := by
  obtain ⟨p, hp⟩ := List.exists_mem_of_ne_nil _ h
  obtain ⟨h1, h2, s, h3⟩ := mem_new.mp hp
  unfold leftN
  refine Classical.byContradiction fun z => ?_
  have := filter_len_eq (l := allPos B.n) (f := fun p => (Kn (gameOf B) (r + 1) p).isNone) (f' := fun p => (Kn (gameOf B) r p).isNone) (fun x _ hx => ?_) (by (first | lia | omega)) p (mem_go.mp h1).1 (by rw [h2]; rfl)
  · rw [h3] at this
    cases this
  · cases e : Kn (gameOf B) r x with
    | none => rfl
    | some v => rw [Kn_succ e] at hx; cases hx
/-! ### positions in their order -/
theorem allPos_take {n k : Nat} (h : k < 2 * n * n) : (allPos n).take (k + 1) = (allPos n).take k ++ [posAt n k] := by
  have e : (allPos n)[k]? = some (posAt n k) := by
    unfold allPos
    rw [List.getElem?_map, List.getElem?_range h]
    rfl
  rw [List.take_add_one, e]
  rfl
theorem pos_two {n i j : Nat} (hi : i < n) (hj : j < n) : i * (2 * n) + 2 * j + 1 < 2 * n * n ∧ posAt n (i * (2 * n) + 2 * j) = ⟨i, j, true⟩ ∧ posAt n (i * (2 * n) + 2 * j + 1) = ⟨i, j, false⟩ := by
  have a : InB n ⟨(i : Int), (j : Int), true⟩ := ⟨Int.natCast_nonneg _, by show (i : Int) < n; (first | lia | omega), Int.natCast_nonneg _, by show (j : Int) < n; (first | lia | omega)⟩
  have b : InB n ⟨(i : Int), (j : Int), false⟩ := ⟨a.f0, a.f1, a.h0, a.h1⟩
  have ea : ixOf n ⟨(i : Int), (j : Int), true⟩ = i * (2 * n) + 2 * j := by simp [ixOf]
  have eb : ixOf n ⟨(i : Int), (j : Int), false⟩ = i * (2 * n) + 2 * j + 1 := by simp [ixOf, Nat.add_assoc]
  have l := ixOf_lt b
  have pa := posAt_ixOf a
  have pb := posAt_ixOf b
  rw [ea] at pa
  rw [eb] at pb l
  exact ⟨l, pa, pb⟩
end Fx

set_option Elab.async false
set_option linter.all false
set_option maxRecDepth 100000
namespace Fx
open PySem PySem.SetTable PyProof.Rows
section
variable {prog : Program} {w : World} {K : Type} [DecidableEq K] {knd : KeyKind prog w K} {A : Around} {E : Value → Shared → Prop} {s : Shared}
theorem ofA_byValue (n : Nat) {v : Value} (h : carriedByValue v = true) : ofAClassStatement n v = pure false := by
  cases v <;> first | (simp [carriedByValue] at h; done) | (cases n <;> simp [ofAClassStatement])
theorem ofA_tuple {ks : List K} {a : Addr} {Q : Bool → Shared → Prop} (hk : IsTupleKey knd s.heap ks a) (h : Q false s) : wpAny (model prog w) A (ofAClassStatement 8 (.ref a)) Q E s := by
  have hT := hk.typeIs
  obtain ⟨o, items, n, ho, _, hd, hi⟩ := hk
  unfold ofAClassStatement
  refine wpAny_bind (wpAny_typeOf hT ?_)
  simp only [beq_self_eq_true, if_true]
  refine wpAny_bind (wpAny_pure ?_)
  simp only [Bool.not_true, Bool.false_eq_true, if_false]
  refine wpAny_bind (wpAny_seqItems ho hd ?_)
  simp only
  refine wpAny_bind ?_
  show wpAny _ _ (forIn items _ _) _ _ s
  rw [← Array.forIn_toList]
  refine wpAny_forIn_list _ (fun rest r s' => r.1 = none ∧ s' = s ∧ ∀ v ∈ rest, carriedByValue v = true) _ ?_ ?_ _ _ ⟨rfl, rfl, hi.byValue⟩
  · rintro v rest r s' ⟨hr, rfl, hall⟩
    rw [ofA_byValue _ (hall v List.mem_cons_self)]
    refine wpAny_bind (wpAny_pure ?_)
    simp only [Bool.false_eq_true, if_false]
    exact wpAny_pure ⟨rfl, rfl, fun u hu' => hall u (List.mem_cons_of_mem _ hu')⟩
  · rintro ⟨r1, r2⟩ s' ⟨hr, rfl, _⟩
    simp only at hr
    subst hr
    exact wpAny_pure h
/-- a search among tuples shows nothing -/
theorem notSeen {k : List K} {c : Addr} (hx : IsTupleKey knd s.heap k c) {Q : Bool → Shared → Prop} : ∀ (stored : List Value), (∀ y ∈ stored, ∃ b ks, y = .ref b ∧ IsTupleKey knd s.heap ks b) → Q false s →
    wpAny (model prog w) A (searchCouldBeSeen (.ref c) stored) Q E s := by
  intro stored hs h
  unfold searchCouldBeSeen
  refine wpAny_bind ?_
  refine wpAny_forIn_list _ (fun rest r s' => r.1 = none ∧ s' = s ∧ ∀ y ∈ rest, ∃ b ks, y = .ref b ∧ IsTupleKey knd s.heap ks b) _ ?_ ?_ _ _ ⟨rfl, rfl, hs⟩
  · rintro v rest r s' ⟨hr, rfl, hall⟩
    obtain ⟨b, ks, rfl, hb⟩ := hall v List.mem_cons_self
    have hrest := fun y hy => hall y (List.mem_cons_of_mem _ hy)
    simp only [carriedByValue, Bool.and_false, Bool.or_false]
    by_cases hcb : (c == b) = true
    · rw [if_pos hcb]
      exact wpAny_pure ⟨rfl, rfl, hrest⟩
    · rw [if_neg hcb]
      refine wpAny_bind (wpAny_eqIsQuiet_tuple hx ?_)
      simp only [Bool.not_true, Bool.false_eq_true, if_false]
      refine wpAny_bind (wpAny_eqIsQuiet_tuple hb ?_)
      simp only [Bool.not_true, Bool.false_eq_true, if_false]
      refine wpAny_bind (ofA_tuple hx ?_)
      simp only [Bool.false_eq_true, if_false]
      refine wpAny_bind (ofA_tuple hb ?_)
      simp only [Bool.false_eq_true, if_false]
      exact wpAny_pure ⟨rfl, rfl, hrest⟩
  · rintro ⟨r1, r2⟩ s' ⟨hr, rfl, _⟩
    simp only at hr
    subst hr
    exact wpAny_pure h
theorem TabOk.fits {n : Nat} {t : SetTable} (ok : TabOk n t) : t.fits n = true := by
  unfold SetTable.fits SetTable.fill
  rw [ok.dum, ok.place]
  simp
  exact Nat.le_of_lt_succ ok.room
theorem TabOk.gave {n : Nat} {t : SetTable} (ok : TabOk n t) : t.gaveWay = false := by
  unfold SetTable.gaveWay
  have := ok.mask
  simp only [masks, List.mem_cons, List.mem_nil_iff, or_false] at this
  rcases this with e | e | e <;> (rw [e]; rfl)
/-- what the set at a holds: tuples, none of them k -/
structure Others (knd : KeyKind prog w K) (h : Heap) (es : Array (Int × Value)) (k : List K) : Prop where
  all : ∀ e ∈ es.toList, ∃ b ks, e.2 = .ref b ∧ IsTupleKey knd h ks b ∧ ks ≠ k
theorem advN_dummy (t : SetTable) : ∀ (n : Nat) (p : Probe), (advN t n p).dummy = p.dummy
  | 0, _ => rfl
  | n + 1, p => by
    show (advN t n (t.advance p)).dummy = _
    rw [advN_dummy t n, adv_dummy]
theorem hash_byValue (n : Nat) {v : Value} (h : carriedByValue v = true) : ∃ b, hashByValue n v = pure b := by
  cases v <;> first | (simp [carriedByValue] at h; done) | (cases n <;> exact ⟨_, by unfold hashByValue; rfl⟩)
theorem hashBy_tuple {ks : List K} {a : Addr} {Q : Bool → Shared → Prop} (hk : IsTupleKey knd s.heap ks a) (h : ∀ b, Q b s) : wpAny (model prog w) A (hashByValue 8 (.ref a)) Q E s := by
  have hT := hk.typeIs
  obtain ⟨o, items, n, ho, _, hd, hi⟩ := hk
  unfold hashByValue
  refine wpAny_bind (wpAny_specialOf hT F.slot_tuple_hash.lookup ?_)
  simp only
  refine wpAny_bind (wpAny_seqItems ho hd ?_)
  refine wpAny_bind ?_
  show wpAny _ _ (forIn items _ _) _ _ s
  rw [← Array.forIn_toList]
  refine wpAny_forIn_list _ (fun rest r s' => s' = s ∧ ∀ v ∈ rest, carriedByValue v = true) _ ?_ ?_ _ _ ⟨rfl, hi.byValue⟩
  · rintro v rest r s' ⟨rfl, hall⟩
    obtain ⟨b, e⟩ := hash_byValue 7 (hall v List.mem_cons_self)
    rw [e]
    refine wpAny_bind (wpAny_pure ?_)
    cases b with
    | true =>
      simp only [Bool.not_true, Bool.false_eq_true, if_false]
      exact wpAny_pure ⟨rfl, fun u hu' => hall u (List.mem_cons_of_mem _ hu')⟩
    | false =>
      simp only [Bool.not_false, if_true]
      exact wpAny_pure (wpAny_pure (h _))
  · rintro ⟨r1, r2⟩ s' ⟨rfl, _⟩
    cases r1 with
    | none => exact wpAny_pure (h _)
    | some b => exact wpAny_pure (h _)
theorem tup_keeps {h h' : Heap} {k : List K} {b a : Addr} {o : Obj} {es : Array (Int × Value)} {ep : Nat} {t : SetTable} (x : IsTupleKey knd h k b) (ho : h.get? a = some o) (hd : o.data = .set es ep t) (hs : Heap.SameBut a h h') : IsTupleKey knd h' k b := by
  obtain ⟨u, items, n, e1, e2, e3, e4⟩ := x
  have ne : b ≠ a := by
    rintro rfl
    rw [e1] at ho
    cases ho
    rw [hd] at e3
    cases e3
  exact ⟨u, items, n, (hs.2 b ne).trans e1, e2, e3, e4⟩
theorem insertAt_size {α : Type} (xs : Array α) (p : Nat) (x : α) : (SetTable.insertAt xs p x).size = xs.size + 1 := by
  unfold SetTable.insertAt
  simp
  (first | lia | omega)
theorem insertAt_mem {α : Type} {xs : Array α} {p : Nat} {x y : α} (h : y ∈ (SetTable.insertAt xs p x).toList) : y ∈ xs.toList ∨ y = x := by
  unfold SetTable.insertAt at h
  simp only [Array.toList_append, Array.toList_push, List.mem_append, List.mem_singleton] at h
  rcases h with (h | h) | h
  · left
    simp at h
    exact List.mem_of_mem_take h
  · exact .inr h
  · left
    simp at h
    exact List.mem_of_mem_drop (List.mem_of_mem_take h)
theorem put_ok {n : Nat} {t : SetTable} (ok : TabOk n t) (j : Nat) (hr : n + 1 < t.mask + 1) : TabOk (n + 1) (t.put j).1 ∧ (t.put j).1.mask = t.mask := by
  refine ⟨⟨?_, ?_, ok.mask, hr⟩, rfl⟩
  · show (SetTable.insertAt t.place _ j).size = _
    rw [insertAt_size, ok.place]
  · show (if SetTable.has t.dummies j = true then _ else t.dummies) = #[]
    rw [ok.dum, has_nil]
    rfl
theorem big (n : Nat) (h : n ≤ 1000) : n ≤ sizeLine := Nat.le_trans h (by decide)
theorem put_get {h : Heap} {a : Addr} {o : Obj} {es es2 : Array (Int × Value)} {ep : Nat} {t t2 : SetTable} (ho : h.get? a = some o) (hd : o.data = .set es ep t) : (h.update a (Obj.putSet es2 t2)).get? a = some { o with data := .set es2 (ep + 1) t2 } := by
  have e := Heap.get?_update_self (Obj.putSet es2 t2) ho (by rw [putSet_of es2 t2 hd]; rfl)
  rw [putSet_of es2 t2 hd] at e
  exact e
theorem fm_all {α β : Type} (f : α → Option β) : ∀ l : List α, (∀ x ∈ l, (f x).isSome = true) → (l.filterMap f).length = l.length
  | [], _ => rfl
  | a :: r, h => by
    have ha := h a List.mem_cons_self
    rw [List.filterMap_cons]
    cases e : f a with
    | none => rw [e] at ha; cases ha
    | some b => simp [fm_all f r fun x hx => h x (List.mem_cons_of_mem _ hx)]
/-- the list's items are tuples with these keys, not at S and not at I -/
structure Tups (knd : KeyKind prog w K) (h : Heap) (items : Array Value) (keys : List (List K)) (S I : Addr) : Prop where
  len : items.size = keys.length
  at_ : ∀ (j : Nat) (v : Value), items[j]? = some v → ∃ b k, v = .ref b ∧ keys[j]? = some k ∧ IsTupleKey knd h k b ∧ b ≠ S ∧ b ≠ I
theorem tup_kept {h h' : Heap} {k : List K} {b S I : Addr} (x : IsTupleKey knd h k b) (h1 : b ≠ S) (h2 : b ≠ I) (kp : ∀ b o, b ≠ S → b ≠ I → h.get? b = some o → h'.get? b = some o) : IsTupleKey knd h' k b := by
  obtain ⟨u, its, n, e1, e2⟩ := x
  exact ⟨u, its, n, kp b u h1 h2 e1, e2⟩
theorem iter_not_tuple {h : Heap} {I l : Addr} {i : Nat} (x : h.IsListIter I l i) (k : List K) : ¬ IsTupleKey knd h k I := by
  rintro ⟨u, its, n, e1, e2, _⟩
  obtain ⟨o, ho, hc, _⟩ := x
  rw [ho] at e1
  cases e1
  rw [hc] at e2
  exact absurd e2 (by decide)
end
end Fx

set_option Elab.async false
set_option linter.all false
set_option maxRecDepth 100000
namespace Fx
open PySem PySem.Spec PyProof.Rows L2
/-- a set of that size stands at a -/
def SetN (a : Addr) (n : Nat) : Heap → Prop := fun h => ∃ o es ep t, h.get? a = some o ∧ o.ExactSet ∧ o.data = .set es ep t ∧ SetTable.fits t es.size = true ∧ es.size = n
theorem SetN.ok {P : Program} {w : World} {H : Hp} {h : Heap} {a : Addr} {n : Nat} (x : SetN a n h) : ObjOk P w H h a (.ext (SetN a n)) := by
  obtain ⟨o, es, ep, t, ho, r⟩ := id x
  refine ⟨x, ⟨o, ho⟩, fun h1 h2 y k => ?_⟩
  obtain ⟨o, es, ep, t, ho, r⟩ := y
  exact ⟨o, es, ep, t, k o ho, r⟩
section
variable {X : Cx}
def KeyAt (H : Hp) (v : V) (k : List Key) : Prop := ∃ b, v = .ref b ∧ H b = some (.tup (k.map kV))
theorem paired_get {α β : Type} {F : α → β → Prop} : ∀ {l : List α} {m : List β} {i : Nat} {x : α}, Paired F l m → l[i]? = some x → ∃ y, m[i]? = some y ∧ F x y
  | _, _, _, _, .nil, h => by simp at h
  | _, _, 0, _, .cons a t, h => by simp at h; subst h; exact ⟨_, rfl, a⟩
  | _, _, i + 1, _, .cons a t, h => by
    obtain ⟨y, h1, h2⟩ := paired_get (i := i) t (by simpa using h)
    exact ⟨y, by simpa using h1, h2⟩
/-- len of a set -/
theorem call_lenS : CallR X (.builtin "len") (fun xs H Q => ∃ (a : Addr) (n : Nat), xs = [.ref a] ∧ H a = some (.ext (SetN a n)) ∧ n ≤ 1000 ∧ Q (.int n) H) := by
  intro pins s σ H xs us Q I r h
  obtain ⟨a, n, rfl, ha, hn, q⟩ := h
  obtain ⟨u, rfl, ru⟩ := vals1 r
  cases (show u = Value.ref a from ru)
  obtain ⟨⟨o, es, ep, t, ho, hex, hd, hf, hz⟩, _⟩ := (show ObjOk X.prog X.w H s.heap a (.ext (SetN a n)) from I.hok a _ ha)
  refine PySem.call_len_set ho hex hd hf (by (first | lia | omega)) ⟨.int n, H, I.tok _, ⟨_, by rw [hz]⟩, q⟩
theorem tt_go {i : Nat} {x : V} {τ : L2.St} {H : Hp} {A B : L2.St → Hp → Prop} (h : A (τ.set i (some x)) H) : gName i x τ H fun τ2 H3 => ttT τ2 H3 fun b H4 => if b = true then A τ2 H4 else B τ2 H4 := by
  show if true = true then A (τ.set i (some x)) H else B (τ.set i (some x)) H
  exact iteT h
theorem b_set : bootBuiltins "set" = some (.type "set") := by decide +kernel
theorem CallR.or2 {f : Value} {r r' : List V → Hp → VK → Prop} (h : CallR X f r) (h' : CallR X f r') : CallR X f (fun xs H Q => r xs H Q ∨ r' xs H Q) := CallR.or h h'
end
end Fx

set_option Elab.async false
set_option linter.all false
set_option maxRecDepth 100000
namespace Fx
open PySem PySem.SetTable PyProof.Rows
/-! ### a rising array of places -/
def Srt (xs : Array Nat) : Prop := ∀ (a b : Nat) (x y : Nat), a < b → xs[a]? = some x → xs[b]? = some y → x < y
theorem below_go {xs : Array Nat} (s : Srt xs) (j : Nat) : ∀ (F lo hi : Nat), hi - lo ≤ F → lo ≤ hi → hi ≤ xs.size → (∀ i x, i < lo → xs[i]? = some x → x < j) → (∀ i x, hi ≤ i → xs[i]? = some x → j ≤ x) →
    (below.go xs j F lo hi ≤ xs.size ∧ (∀ i x, i < below.go xs j F lo hi → xs[i]? = some x → x < j) ∧ (∀ i x, below.go xs j F lo hi ≤ i → xs[i]? = some x → j ≤ x)) := by
  intro F
  induction F with
  | zero =>
    intro lo hi h1 h2 h3 h4 h5
    have e : lo = hi := by (first | lia | omega)
    subst e
    exact ⟨h3, h4, h5⟩
  | succ F ih =>
    intro lo hi h1 h2 h3 h4 h5
    unfold below.go
    by_cases h : lo < hi
    · rw [if_pos h]
      simp only
      have hm : (lo + hi) / 2 < xs.size := by (first | lia | omega)
      have eg : xs[(lo + hi) / 2]? = some xs[(lo + hi) / 2] := Array.getElem?_eq_getElem hm
      have ed : xs.getD ((lo + hi) / 2) j = xs[(lo + hi) / 2] := by rw [Array.getD_eq_getD_getElem?, eg]; rfl
      rw [ed]
      by_cases hl : xs[(lo + hi) / 2] < j
      · rw [if_pos hl]
        refine ih _ _ (by (first | lia | omega)) (by (first | lia | omega)) h3 (fun i x hi' ex => ?_) h5
        by_cases e : i = (lo + hi) / 2
        · subst e
          rw [eg] at ex
          cases ex
          exact hl
        · exact Nat.lt_trans (s i _ x _ (by (first | lia | omega)) ex eg) hl
      · rw [if_neg hl]
        refine ih _ _ (by (first | lia | omega)) (by (first | lia | omega)) (by (first | lia | omega)) h4 fun i x hi' ex => ?_
        by_cases e : i = (lo + hi) / 2
        · subst e
          rw [eg] at ex
          cases ex
          (first | lia | omega)
        · have := s _ i _ x (by (first | lia | omega)) eg ex
          (first | lia | omega)
    · rw [if_neg h]
      have e : lo = hi := by (first | lia | omega)
      subst e
      exact ⟨h3, h4, h5⟩
theorem below_spec {xs : Array Nat} (s : Srt xs) (j : Nat) : below xs j ≤ xs.size ∧ (∀ i x, i < below xs j → xs[i]? = some x → x < j) ∧ (∀ i x, below xs j ≤ i → xs[i]? = some x → j ≤ x) :=
  below_go s j xs.size 0 xs.size (by (first | lia | omega)) (Nat.zero_le _) (Nat.le_refl _) (fun i x h => absurd h (Nat.not_lt_zero _)) fun i x h e => by
    obtain ⟨hlt, _⟩ := Array.getElem?_eq_some_iff.mp e
    (first | lia | omega)
theorem below_at {xs : Array Nat} (s : Srt xs) {i j : Nat} (h : xs[i]? = some j) : below xs j = i := by
  obtain ⟨h1, h2, h3⟩ := below_spec s j
  rcases Nat.lt_trichotomy (below xs j) i with z | z | z
  · have hlt : below xs j < xs.size := by
      obtain ⟨hlt, _⟩ := Array.getElem?_eq_some_iff.mp h
      (first | lia | omega)
    have e := Array.getElem?_eq_getElem hlt
    have := h3 _ _ (Nat.le_refl _) e
    have := s _ _ _ _ z e h
    (first | lia | omega)
  · exact z
  · have := h2 i j z h
    (first | lia | omega)
theorem insertAt_list {α : Type} (xs : Array α) (p : Nat) (x : α) : (SetTable.insertAt xs p x).toList = xs.toList.take p ++ x :: xs.toList.drop p := by
  unfold SetTable.insertAt
  simp
  exact List.take_of_length_le (by rw [List.length_drop, Array.length_toList]; exact Nat.le_refl _)
theorem insertAt_get {α : Type} {xs : Array α} {p : Nat} (hp : p ≤ xs.size) (x : α) (i : Nat) : (SetTable.insertAt xs p x)[i]? = if i < p then xs[i]? else if i = p then some x else xs[i - 1]? := by
  rw [← Array.getElem?_toList, insertAt_list]
  have hl : (xs.toList.take p).length = p := by rw [List.length_take, Array.length_toList]; (first | lia | omega)
  by_cases h1 : i < p
  · rw [if_pos h1, List.getElem?_append_left (by rw [hl]; exact h1), List.getElem?_take, if_pos h1, Array.getElem?_toList]
  · rw [if_neg h1, List.getElem?_append_right (by rw [hl]; (first | lia | omega)), hl]
    by_cases h2 : i = p
    · subst h2
      rw [if_pos rfl, Nat.sub_self]
      rfl
    · rw [if_neg h2, show i - p = (i - 1 - p) + 1 by (first | lia | omega), List.getElem?_cons_succ, List.getElem?_drop, show p + (i - 1 - p) = i - 1 by (first | lia | omega), Array.getElem?_toList]
theorem srt_insert {xs : Array Nat} (s : Srt xs) {j : Nat} (hj : ∀ i : Nat, xs[i]? ≠ some j) : Srt (SetTable.insertAt xs (below xs j) j) := by
  obtain ⟨h1, h2, h3⟩ := below_spec s j
  intro a b x y hab ha hb
  rw [insertAt_get h1] at ha hb
  have ge : ∀ (i z : Nat), below xs j ≤ i → xs[i]? = some z → j < z := fun i z hi e => by
    have := h3 i z hi e
    rcases Nat.lt_or_eq_of_le this with z' | z'
    · exact z'
    · subst z'
      exact absurd e (hj i)
  by_cases c1 : a < below xs j
  · rw [if_pos c1] at ha
    by_cases c2 : b < below xs j
    · rw [if_pos c2] at hb
      exact s a b x y hab ha hb
    · rw [if_neg c2] at hb
      by_cases c3 : b = below xs j
      · rw [if_pos c3] at hb
        cases hb
        exact h2 a x c1 ha
      · rw [if_neg c3] at hb
        exact Nat.lt_trans (h2 a x c1 ha) (ge _ _ (by (first | lia | omega)) hb)
  · rw [if_neg c1] at ha
    rw [if_neg (by (first | lia | omega) : ¬ b < below xs j)] at hb
    rw [if_neg (by (first | lia | omega) : ¬ b = below xs j)] at hb
    by_cases c3 : a = below xs j
    · rw [if_pos c3] at ha
      cases ha
      exact ge _ _ (by (first | lia | omega)) hb
    · rw [if_neg c3] at ha
      exact s (a - 1) (b - 1) x y (by (first | lia | omega)) ha hb
/-! ### slots -/
def InPl (t : SetTable) (j : Nat) : Prop := ∃ i : Nat, t.place[i]? = some j
theorem slot_live {t : SetTable} (s : Srt t.place) {i j : Nat} (h : t.place[i]? = some j) : t.slot j = .live i := by
  unfold SetTable.slot
  simp only [below_at s h]
  rw [h]
  simp
theorem slot_empty {t : SetTable} (hd : t.dummies = #[]) {j : Nat} (h : t.slot j = .empty) : ¬ InPl t j ∨ ¬ Srt t.place := by
  refine Classical.or_iff_not_imp_right.mpr fun hs => ?_
  have hs : Srt t.place := Classical.not_not.mp hs
  rintro ⟨i, e⟩
  rw [slot_live hs e] at h
  cases h
theorem live_at {t : SetTable} (hd : t.dummies = #[]) {i j : Nat} (h : t.slot j = .live i) : t.place[i]? = some j := by
  unfold SetTable.slot at h
  simp only [hd, has_nil, Bool.false_eq_true, if_false] at h
  by_cases c : (t.place[below t.place j]? == some j) = true
  · rw [if_pos c] at h
    injection h with h
    subst h
    exact eq_of_beq c
  · rw [if_neg c] at h
    cases h
/-! ### where a search goes -/
abbrev tabOf (mask : Nat) : SetTable := { mask := mask, place := #[], dummies := #[], finger := 0, led := false, moves := 0, plain := false }
def posn (mask : Nat) (h : Int) (m : Nat) : Nat := (advN (tabOf mask) m ((tabOf mask).probeStart h)).j
theorem adv_eq {t t' : SetTable} (h : t.mask = t'.mask) (p : Probe) : t.advance p = t'.advance p := by
  unfold SetTable.advance
  rw [h]
theorem advN_eq {t t' : SetTable} (h : t.mask = t'.mask) : ∀ (n : Nat) (p : Probe), advN t n p = advN t' n p
  | 0, _ => rfl
  | n + 1, p => by
    show advN t n (t.advance p) = advN t' n (t'.advance p)
    rw [adv_eq h, advN_eq h n]
theorem start_eq {t t' : SetTable} (h : t.mask = t'.mask) (x : Int) : t.probeStart x = t'.probeStart x := by
  unfold SetTable.probeStart
  rw [h]
theorem posn_of (t : SetTable) (h : Int) (m : Nat) : (advN t m (t.probeStart h)).j = posn t.mask h m := by
  unfold posn
  rw [start_eq (t := t) (t' := tabOf t.mask) rfl, advN_eq (t := t) (t' := tabOf t.mask) rfl]
/-- a search for h comes to j, by full places alone -/
def Rch (mask : Nat) (full : Nat → Prop) (h : Int) (j : Nat) : Prop := ∃ N, N < 10 * turns mask ∧ posn mask h N = j ∧ ∀ m, m < N → full (posn mask h m)
theorem Rch.mono {mask : Nat} {full full' : Nat → Prop} {h : Int} {j : Nat} (x : Rch mask full h j) (f : ∀ z, full z → full' z) : Rch mask full' h j := by
  obtain ⟨N, h1, h2, h3⟩ := x
  exact ⟨N, h1, h2, fun m hm => f _ (h3 m hm)⟩
structure Kept (es : Array (Int × Value)) (t : SetTable) : Prop where
  srt : Srt t.place
  at_ : ∀ (i j : Nat) (e : Int × Value), t.place[i]? = some j → es[i]? = some e → Rch t.mask (InPl t) e.1 j
/-- one more is put where a search for it ends -/
theorem Kept.put {es : Array (Int × Value)} {t t' : SetTable} (k : Kept es t) (hn : es.size = t.place.size) {h : Int} {j : Nat} {v : Value} (hj : ¬ InPl t j) (hr : Rch t.mask (InPl t) h j) (hm : t'.mask = t.mask) (hp : t'.place = (t.put j).1.place) : Kept (SetTable.insertAt es (t.put j).2 (h, v)) t' := by
  have hp' : t'.place = SetTable.insertAt t.place (below t.place j) j := hp
  have e2 : (t.put j).2 = below t.place j := rfl
  rw [e2]
  have hb := (below_spec k.srt j).1
  have f : ∀ z, InPl t z → InPl t' z := fun z ⟨i, e⟩ => by
    by_cases c : i < below t.place j
    · exact ⟨i, by rw [hp', insertAt_get hb, if_pos c]; exact e⟩
    · exact ⟨i + 1, by rw [hp', insertAt_get hb, if_neg (by (first | lia | omega)), if_neg (by (first | lia | omega)), Nat.add_sub_cancel]; exact e⟩
  refine ⟨?_, fun i z e h1 h2 => ?_⟩
  · rw [hp']
    exact srt_insert k.srt fun i e => hj ⟨i, e⟩
  · rw [hm]
    rw [hp', insertAt_get hb] at h1
    rw [insertAt_get (by (first | lia | omega))] at h2
    by_cases c1 : i < below t.place j
    · rw [if_pos c1] at h1 h2
      exact (k.at_ i z e h1 h2).mono f
    · rw [if_neg c1] at h1 h2
      by_cases c2 : i = below t.place j
      · rw [if_pos c2] at h1 h2
        cases h1
        cases h2
        exact hr.mono f
      · rw [if_neg c2] at h1 h2
        exact (k.at_ _ z e h1 h2).mono f
/-- one search: the first empty slot, or one with that hash on the way there -/
theorem go_spec2 {t : SetTable} (hd : t.dummies = #[]) (hashAt : Nat → Int) (h : Int) : ∀ (N F : Nat) (p : Probe), N < F → t.slot (advN t N p).j = .empty → p.dummy = none →
    (∃ k, k ≤ N ∧ probe.go t hashAt h F p = some (.empty (advN t k p).j none) ∧ t.slot (advN t k p).j = .empty ∧ ∀ m, m < k → ∃ i, t.slot (advN t m p).j = .live i) ∨
    ∃ k i, k < N ∧ probe.go t hashAt h F p = some (.candidate (advN t k p).j i (advN t (k + 1) p)) ∧ t.slot (advN t k p).j = .live i ∧ i < t.place.size ∧ ∀ m, m ≤ k → ∃ i, t.slot (advN t m p).j = .live i := by
  intro N
  induction N with
  | zero =>
    intro F p hF hs hp
    obtain ⟨F, rfl⟩ : ∃ F', F = F' + 1 := ⟨F - 1, by (first | lia | omega)⟩
    left
    have hs : t.slot p.j = .empty := hs
    refine ⟨0, Nat.le_refl _, ?_, hs, fun m hm => absurd hm (Nat.not_lt_zero _)⟩
    unfold probe.go
    rw [hs, hp]
    rfl
  | succ N ih =>
    intro F p hF hs hp
    obtain ⟨F, rfl⟩ : ∃ F', F = F' + 1 := ⟨F - 1, by (first | lia | omega)⟩
    rcases slot_of hd p.j with e | ⟨i, e, hi⟩
    · left
      refine ⟨0, Nat.zero_le _, ?_, e, fun m hm => absurd hm (Nat.not_lt_zero _)⟩
      unfold probe.go
      rw [e, hp]
      rfl
    · have e0 : t.slot (advN t 0 p).j = .live i := e
      unfold probe.go
      rw [e]
      simp only
      by_cases hh : (hashAt i == h) = true
      · rw [if_pos hh]
        refine .inr ⟨0, i, by (first | lia | omega), rfl, e, hi, fun m hm => ?_⟩
        rw [Nat.le_zero.mp hm]
        exact ⟨i, e0⟩
      · rw [if_neg hh]
        rcases ih F (t.advance p) (by (first | lia | omega)) hs (by rw [adv_dummy]; exact hp) with ⟨k, hk, z, z2, z3⟩ | ⟨k, i', hk, z, z2, z3, z4⟩
        · refine .inl ⟨k + 1, by (first | lia | omega), z, z2, fun m hm => ?_⟩
          cases m with
          | zero => exact ⟨i, e0⟩
          | succ m => exact z3 m (by (first | lia | omega))
        · refine .inr ⟨k + 1, i', by (first | lia | omega), z, z2, z3, fun m hm => ?_⟩
          cases m with
          | zero => exact ⟨i, e0⟩
          | succ m => exact z4 m (by (first | lia | omega))
/-- one search for what is there: it, or another with its hash ahead of it -/
theorem go_found {t : SetTable} (hashAt : Nat → Int) (h : Int) {i0 : Nat} (hi0 : hashAt i0 = h) : ∀ (N F : Nat) (p : Probe), N < F → t.slot (advN t N p).j = .live i0 → (∀ m, m < N → ∃ i, t.slot (advN t m p).j = .live i) →
    ∃ k i, k ≤ N ∧ probe.go t hashAt h F p = some (.candidate (advN t k p).j i (advN t (k + 1) p)) ∧ t.slot (advN t k p).j = .live i := by
  intro N
  induction N with
  | zero =>
    intro F p hF hs hm
    obtain ⟨F, rfl⟩ : ∃ F', F = F' + 1 := ⟨F - 1, by (first | lia | omega)⟩
    have hs : t.slot p.j = .live i0 := hs
    refine ⟨0, i0, Nat.le_refl _, ?_, hs⟩
    unfold probe.go
    rw [hs]
    simp only
    rw [if_pos (by rw [hi0]; exact beq_self_eq_true _)]
    rfl
  | succ N ih =>
    intro F p hF hs hm
    obtain ⟨F, rfl⟩ : ∃ F', F = F' + 1 := ⟨F - 1, by (first | lia | omega)⟩
    obtain ⟨i, e⟩ := hm 0 (by (first | lia | omega))
    have e : t.slot p.j = .live i := e
    unfold probe.go
    rw [e]
    simp only
    by_cases hh : (hashAt i == h) = true
    · rw [if_pos hh]
      exact ⟨0, i, Nat.zero_le _, rfl, e⟩
    · rw [if_neg hh]
      obtain ⟨k, i', hk, z, z2⟩ := ih F (t.advance p) (by (first | lia | omega)) hs (fun m hm' => hm (m + 1) (by (first | lia | omega)))
      exact ⟨k + 1, i', by (first | lia | omega), z, z2⟩
theorem probe_cases2 {t : SetTable} {ha : Nat → Int} {h : Int} {p : Probe} {o : Option Met} (e : t.probe ha h p = o) (hd : t.dummies = #[]) {N : Nat} (hN : N < 10 * turns t.mask) (hs : t.slot (advN t N p).j = .empty) (hp : p.dummy = none) :
    (∃ k, k ≤ N ∧ o = some (.empty (advN t k p).j none) ∧ t.slot (advN t k p).j = .empty ∧ ∀ m, m < k → ∃ i, t.slot (advN t m p).j = .live i) ∨
    ∃ k i, k < N ∧ o = some (.candidate (advN t k p).j i (advN t (k + 1) p)) ∧ t.slot (advN t k p).j = .live i ∧ i < t.place.size ∧ ∀ m, m ≤ k → ∃ i, t.slot (advN t m p).j = .live i := by
  subst e
  exact go_spec2 hd ha h N (10 * turns t.mask) p hN hs hp
theorem probe_found {t : SetTable} {ha : Nat → Int} {h : Int} {p : Probe} {o : Option Met} (e : t.probe ha h p = o) {i0 N : Nat} (hi0 : ha i0 = h) (hN : N < 10 * turns t.mask) (hs : t.slot (advN t N p).j = .live i0) (hm : ∀ m, m < N → ∃ i, t.slot (advN t m p).j = .live i) :
    ∃ k i, k ≤ N ∧ o = some (.candidate (advN t k p).j i (advN t (k + 1) p)) ∧ t.slot (advN t k p).j = .live i := by
  subst e
  exact go_found ha h hi0 N (10 * turns t.mask) p hN hs hm
theorem no_probe {t : SetTable} {ha : Nat → Int} {h : Int} {p : Probe} (hq : ∀ met, t.probe ha h p = some met → False) {i0 N : Nat} (hi0 : ha i0 = h) (hN : N < 10 * turns t.mask) (hs : t.slot (advN t N p).j = .live i0) (hm : ∀ m, m < N → ∃ i, t.slot (advN t m p).j = .live i) : False := by
  obtain ⟨n, i, hn, e, _⟩ := probe_found rfl hi0 hN hs hm
  exact hq _ e
section
variable {prog : Program} {w : World} {K : Type} [DecidableEq K] {knd : KeyKind prog w K} {A : Around} {E : Value → Shared → Prop} {s : Shared}
theorem search_new2 {a c : Addr} {o : Obj} {es : Array (Int × Value)} {ep : Nat} {t : SetTable} {k : List K} {h : Int} {Q : SetFound → Shared → Prop} (hu : A.units < cLine)
    (ho : s.heap.get? a = some o) (hd : o.data = .set es ep t) (ok : TabOk es.size t) (hx : IsTupleKey knd s.heap k c) (oth : Others knd s.heap es k) (q : ∀ n, n < 10 * turns t.mask → t.slot (posn t.mask h n) = .empty → (∀ m, m < n → ∃ i, t.slot (posn t.mask h m) = .live i) → Q (.free (posn t.mask h n) false) s) :
    ∀ (N F M : Nat) (stand : Option Probe), stand.getD (t.probeStart h) = advN t M (t.probeStart h) → (∀ m, m < M → ∃ i, t.slot (posn t.mask h m) = .live i) → t.slot (advN t N (stand.getD (t.probeStart h))).j = .empty → M + N < 10 * turns t.mask → N < F → (stand.getD (t.probeStart h)).dummy = none →
      wpAny (model prog w) A (setSearchFrom a (.ref c) h true F stand) Q E s := by
  intro N
  induction N using Nat.strongRecOn with
  | ind N ih =>
    intro F M stand hst hM hs hN hF hp
    obtain ⟨F, rfl⟩ : ∃ F', F = F' + 1 := ⟨F - 1, by (first | lia | omega)⟩
    unfold setSearchFrom
    refine wpAny_bind (wpAny_setState_of ho hd ok.fits ?_)
    simp only
    rw [ok.gave]
    simp only [Bool.false_eq_true, if_false]
    refine wpAny_bind (wpAny_pure ?_)
    split
    · rename_i met heq
      have jn : ∀ k, (advN t k (stand.getD (t.probeStart h))).j = posn t.mask h (M + k) := fun k => by rw [hst, ← advN_add, posn_of]
      have lives : ∀ k, (∀ m, m < k → ∃ i, t.slot (advN t m (stand.getD (t.probeStart h))).j = .live i) → ∀ m, m < M + k → ∃ i, t.slot (posn t.mask h m) = .live i := fun k hk m hm => by
        by_cases c : m < M
        · exact hM m c
        · obtain ⟨i, e⟩ := hk (m - M) (by (first | lia | omega))
          rw [jn, show M + (m - M) = m by (first | lia | omega)] at e
          exact ⟨i, e⟩
      rcases probe_cases2 heq ok.dum (by (first | lia | omega)) hs hp with ⟨k, hk, e, e2, e3⟩ | ⟨n, i, hn, e, hsl, hi, hlv⟩
      · have e := Option.some.inj e
        subst e
        rw [jn] at e2 ⊢
        exact wpAny_pure (q _ (by (first | lia | omega)) e2 (lives k e3))
      · have e := Option.some.inj e
        subst e
        simp only
        generalize hj : (advN t n (stand.getD (t.probeStart h))).j = j at hsl
        have hi' : i < es.size := by rw [← ok.place]; exact hi
        obtain ⟨b, ks, eb, hb, hne⟩ := oth.all es[i] (by simp)
        have hei : es[i]? = some (es[i].1, .ref b) := by rw [Array.getElem?_eq_getElem hi', ← eb]
        have tail : wpAny (model prog w) A (do
            let equal ← holding [.ref b] (eqBool (.ref b) (Value.ref c))
            let __x ← setState a
            if (true && equal) = true then pure (SetFound.there none)
              else
                match __x.2.snd.sameMemory t.moves t.mask with
                | some same =>
                  match if same = true then __x.2.snd.slot j else Slot.empty with
                  | Slot.live i' =>
                    match __x.fst[i']? with
                    | some (fst, y') => do
                      let __do_lift ← isSame y' (.ref b)
                      let still ← pure (if __do_lift = true then some i' else none)
                      match still with
                        | none => do
                          rule "set.search.anew"
                          setSearchFrom a (Value.ref c) h true F none
                        | some i' =>
                          if equal = true then pure (SetFound.there (some i'))
                          else setSearchFrom a (Value.ref c) h true F (some (advN t (n + 1) (stand.getD (t.probeStart h))))
                    | none => do
                      let still ← pure none
                      match still with
                        | none => do
                          rule "set.search.anew"
                          setSearchFrom a (Value.ref c) h true F none
                        | some i' =>
                          if equal = true then pure (SetFound.there (some i'))
                          else setSearchFrom a (Value.ref c) h true F (some (advN t (n + 1) (stand.getD (t.probeStart h))))
                  | x => do
                    let still ← pure none
                    match still with
                      | none => do
                        rule "set.search.anew"
                        setSearchFrom a (Value.ref c) h true F none
                      | some i' =>
                        if equal = true then pure (SetFound.there (some i'))
                        else setSearchFrom a (Value.ref c) h true F (some (advN t (n + 1) (stand.getD (t.probeStart h))))
                | x => unsupported "set.changed-during-lookup:is-the-new-block-at-the-old-address") Q E s := by
          refine wpAny_bind (wpAny_holding (wpAny_eqBool_tuple hu hb hx ?_))
          rw [decide_eq_false hne]
          refine wpAny_bind (wpAny_setState_of ho hd ok.fits ?_)
          simp only [Bool.and_false, Bool.false_eq_true, if_false]
          have esm : t.sameMemory t.moves t.mask = some true := by unfold SetTable.sameMemory; simp
          rw [esm]
          simp only [if_true]
          rw [hsl]
          simp only
          rw [hei]
          simp only
          refine wpAny_bind ?_
          have ei : (isSame (.ref b) (.ref b) : Sem Bool) = pure true := by unfold isSame; simp
          rw [ei]
          refine wpAny_pure (wpAny_bind (wpAny_pure ?_))
          simp only [if_true, Bool.false_eq_true, if_false]
          refine ih (N - (n + 1)) (by (first | lia | omega)) F (M + (n + 1)) _ ?_ (lives (n + 1) fun m hm => hlv m (by (first | lia | omega))) ?_ (by (first | lia | omega)) (by (first | lia | omega)) ?_
          · show advN t (n + 1) (stand.getD (t.probeStart h)) = _
            rw [hst, ← advN_add]
          · show t.slot (advN t (N - (n + 1)) (advN t (n + 1) (stand.getD (t.probeStart h)))).j = _
            rw [← advN_add, show n + 1 + (N - (n + 1)) = N by (first | lia | omega)]
            exact hs
          · show (advN t (n + 1) (stand.getD (t.probeStart h))).dummy = none
            rw [advN_dummy]
            exact hp
        by_cases hled : (!t.led) = true
        · rw [if_pos hled]
          refine wpAny_bind (notSeen hx _ ?_ ?_)
          · intro y hy
            obtain ⟨e, he, rfl⟩ := List.mem_map.mp hy
            have he : e ∈ es.toList := by
              simp at he
              simp
              exact he.1
            obtain ⟨b, ks, e1, e2, _⟩ := oth.all e he
            exact ⟨b, ks, e1, e2⟩
          · simp only [Bool.false_eq_true, if_false]
            rw [hei]
            exact tail
        · rw [if_neg hled, hei]
          exact tail
    · rename_i hno heq
      exfalso
      rcases probe_cases2 rfl ok.dum (by (first | lia | omega)) hs hp with ⟨k, hk, e, _⟩ | ⟨n, i, hn, e, _⟩
      · exact heq _ e
      · exact heq _ e
/-- what is there is found -/
theorem search_found {a c : Addr} {o : Obj} {es : Array (Int × Value)} {ep : Nat} {t : SetTable} {k : List K} {h : Int} {Q : SetFound → Shared → Prop} (hu : A.units < cLine)
    (ho : s.heap.get? a = some o) (hd : o.data = .set es ep t) (ok : TabOk es.size t) (hx : IsTupleKey knd s.heap k c) (all : ∀ e ∈ es.toList, ∃ b ks, e.2 = .ref b ∧ IsTupleKey knd s.heap ks b) {i0 : Nat} {b0 : Addr} (h0 : es[i0]? = some (h, .ref b0)) (hb0 : IsTupleKey knd s.heap k b0) (q : Q (.there none) s) :
    ∀ (N F : Nat) (stand : Option Probe), t.slot (advN t N (stand.getD (t.probeStart h))).j = .live i0 → (∀ m, m < N → ∃ i, t.slot (advN t m (stand.getD (t.probeStart h))).j = .live i) → N < 10 * turns t.mask → N < F →
      wpAny (model prog w) A (setSearchFrom a (.ref c) h true F stand) Q E s := by
  intro N
  induction N using Nat.strongRecOn with
  | ind N ih =>
    intro F stand hs hlv hN hF
    obtain ⟨F, rfl⟩ : ∃ F', F = F' + 1 := ⟨F - 1, by (first | lia | omega)⟩
    unfold setSearchFrom
    refine wpAny_bind (wpAny_setState_of ho hd ok.fits ?_)
    simp only
    rw [ok.gave]
    simp only [Bool.false_eq_true, if_false]
    refine wpAny_bind (wpAny_pure ?_)
    split
    · rename_i met heq
      have hh0 : (es[i0]?.map (·.1)).getD 0 = h := by rw [h0]; rfl
      obtain ⟨n, i, hn, e, hsl⟩ := probe_found (i0 := i0) heq hh0 hN hs hlv
      have e := Option.some.inj e
      subst e
      simp only
      have hi : i < es.size := by
        have := live_at ok.dum hsl
        obtain ⟨hlt, _⟩ := Array.getElem?_eq_some_iff.mp this
        rw [← ok.place]
        exact hlt
      have hni : n = N → i = i0 := fun z => by
        rw [z, hs] at hsl
        injection hsl with hsl
        exact hsl.symm
      obtain ⟨b, ks, eb, hb, hor⟩ : ∃ b ks, es[i].2 = .ref b ∧ IsTupleKey knd s.heap ks b ∧ (ks = k ∨ n < N) := by
        by_cases c : i = i0
        · subst c
          rw [Array.getElem?_eq_getElem hi] at h0
          have h0 := Option.some.inj h0
          exact ⟨b0, k, by rw [h0], hb0, .inl rfl⟩
        · obtain ⟨b, ks, e1, e2⟩ := all es[i] (by simp)
          exact ⟨b, ks, e1, e2, .inr (by rcases Nat.lt_or_eq_of_le hn with z | z; exact z; exact absurd (hni z) c)⟩
      have hei : es[i]? = some (es[i].1, .ref b) := by rw [Array.getElem?_eq_getElem hi, ← eb]
      generalize hj : (advN t n (stand.getD (t.probeStart h))).j = j at hsl
      · skip
        have tail : wpAny (model prog w) A (do
            let equal ← holding [.ref b] (eqBool (.ref b) (Value.ref c))
            let __x ← setState a
            if (true && equal) = true then pure (SetFound.there none)
              else
                match __x.2.snd.sameMemory t.moves t.mask with
                | some same =>
                  match if same = true then __x.2.snd.slot j else Slot.empty with
                  | Slot.live i' =>
                    match __x.fst[i']? with
                    | some (fst, y') => do
                      let __do_lift ← isSame y' (.ref b)
                      let still ← pure (if __do_lift = true then some i' else none)
                      match still with
                        | none => do
                          rule "set.search.anew"
                          setSearchFrom a (Value.ref c) h true F none
                        | some i' =>
                          if equal = true then pure (SetFound.there (some i'))
                          else setSearchFrom a (Value.ref c) h true F (some (advN t (n + 1) (stand.getD (t.probeStart h))))
                    | none => do
                      let still ← pure none
                      match still with
                        | none => do
                          rule "set.search.anew"
                          setSearchFrom a (Value.ref c) h true F none
                        | some i' =>
                          if equal = true then pure (SetFound.there (some i'))
                          else setSearchFrom a (Value.ref c) h true F (some (advN t (n + 1) (stand.getD (t.probeStart h))))
                  | x => do
                    let still ← pure none
                    match still with
                      | none => do
                        rule "set.search.anew"
                        setSearchFrom a (Value.ref c) h true F none
                      | some i' =>
                        if equal = true then pure (SetFound.there (some i'))
                        else setSearchFrom a (Value.ref c) h true F (some (advN t (n + 1) (stand.getD (t.probeStart h))))
                | x => unsupported "set.changed-during-lookup:is-the-new-block-at-the-old-address") Q E s := by
          refine wpAny_bind (wpAny_holding (wpAny_eqBool_tuple hu hb hx ?_))
          refine wpAny_bind (wpAny_setState_of ho hd ok.fits ?_)
          by_cases hne : ks = k
          · rw [decide_eq_true hne]
            simp only [Bool.and_self, if_true]
            exact wpAny_pure q
          rw [decide_eq_false hne]
          have hn : n < N := hor.resolve_left hne
          simp only [Bool.and_false, Bool.false_eq_true, if_false]
          have esm : t.sameMemory t.moves t.mask = some true := by unfold SetTable.sameMemory; simp
          rw [esm]
          simp only [if_true]
          rw [hsl]
          simp only
          rw [hei]
          simp only
          refine wpAny_bind ?_
          have ei : (isSame (.ref b) (.ref b) : Sem Bool) = pure true := by unfold isSame; simp
          rw [ei]
          refine wpAny_pure (wpAny_bind (wpAny_pure ?_))
          simp only [if_true, Bool.false_eq_true, if_false]
          refine ih (N - (n + 1)) (by (first | lia | omega)) F _ ?_ (fun m hm => ?_) (by (first | lia | omega)) (by (first | lia | omega))
          · show t.slot (advN t (N - (n + 1)) (advN t (n + 1) (stand.getD (t.probeStart h)))).j = _
            rw [← advN_add, show n + 1 + (N - (n + 1)) = N by (first | lia | omega)]
            exact hs
          · show ∃ i, t.slot (advN t m (advN t (n + 1) (stand.getD (t.probeStart h)))).j = _
            rw [← advN_add]
            exact hlv _ (by (first | lia | omega))
        by_cases hled : (!t.led) = true
        · rw [if_pos hled]
          refine wpAny_bind (notSeen hx _ ?_ ?_)
          · intro y hy
            obtain ⟨e, he, rfl⟩ := List.mem_map.mp hy
            have he : e ∈ es.toList := by
              simp at he
              simp
              exact he.1
            exact all e he
          · simp only [Bool.false_eq_true, if_false]
            rw [hei]
            exact tail
        · rw [if_neg hled, hei]
          exact tail
    · rename_i hno heq
      exfalso
      have hh0 : (es[i0]?.map (·.1)).getD 0 = h := by rw [h0]; rfl
      exact no_probe heq hh0 hN hs hlv
end
end Fx

set_option Elab.async false
set_option linter.all false
set_option maxRecDepth 100000
namespace Fx
open PySem PySem.SetTable PyProof.Rows
/-! ### a table laid anew holds all where a search finds it -/
theorem runEnd_ge (mask i : Nat) : i ≤ runEnd mask i := by unfold runEnd; split <;> (first | lia | omega)
theorem runEnd_in {mask i : Nat} (h : i ≤ mask) : runEnd mask i ≤ mask := by unfold runEnd; split <;> (first | lia | omega)
theorem adv_le (t : SetTable) {p : Probe} (h : p.j + p.more ≤ t.mask) : (t.advance p).j + (t.advance p).more ≤ t.mask := by
  unfold SetTable.advance
  by_cases c : p.more > 0
  · rw [if_pos c]
    show p.j + 1 + (p.more - 1) ≤ t.mask
    (first | lia | omega)
  · rw [if_neg c]
    have h1 : (leap t.mask p.i p.perturb).1 ≤ t.mask := Nat.le_of_lt_succ (Nat.mod_lt _ (Nat.succ_pos _))
    show (leap t.mask p.i p.perturb).1 + (runEnd t.mask (leap t.mask p.i p.perturb).1 - (leap t.mask p.i p.perturb).1) ≤ t.mask
    have h2 := runEnd_in h1
    have h3 := runEnd_ge t.mask (leap t.mask p.i p.perturb).1
    (first | lia | omega)
theorem advN_le (t : SetTable) : ∀ (n : Nat) {p : Probe}, p.j + p.more ≤ t.mask → (advN t n p).j ≤ t.mask
  | 0, p, h => by show p.j ≤ t.mask; (first | lia | omega)
  | n + 1, p, h => advN_le t n (adv_le t h)
theorem posn_le (mask : Nat) (h : Int) (m : Nat) : posn mask h m ≤ mask := by
  refine advN_le (tabOf mask) m ?_
  show bits h % (mask + 1) + (runEnd mask (bits h % (mask + 1)) - bits h % (mask + 1)) ≤ mask
  have h1 : bits h % (mask + 1) ≤ mask := Nat.le_of_lt_succ (Nat.mod_lt _ (Nat.succ_pos _))
  have h2 := runEnd_in h1
  have h3 := runEnd_ge mask (bits h % (mask + 1))
  (first | lia | omega)
theorem free_path {mask : Nat} (owner : Array (Option Nat)) : ∀ (F : Nat) (x : Nat × Nat) (j : Nat), layClean.free mask owner F x.1 x.2 = some j →
    ∃ N, N < 10 * F ∧ (advN (tabOf mask) N (runSt (tabOf mask) x)).j = j ∧ (owner.getD j (some 0)).isNone = true ∧ ∀ m, m < N → (owner.getD (advN (tabOf mask) m (runSt (tabOf mask) x)).j (some 0)).isNone = false := by
  intro F
  induction F with
  | zero => intro x j h; cases h
  | succ F ih =>
    intro x j h
    unfold layClean.free at h
    have hin : ∀ m, m ≤ runEnd mask x.1 - x.1 → (advN (tabOf mask) m (runSt (tabOf mask) x)).j = x.1 + m := fun m hm => by
      rw [adv_in (tabOf mask) m (runSt (tabOf mask) x) hm]
      rfl
    have h9 := runEnd_le mask x.1
    cases e : (List.range (runEnd mask x.1 + 1 - x.1)).find? fun k => (owner.getD (x.1 + k) (some 0)).isNone with
    | some k =>
      rw [e] at h
      have h := Option.some.inj h
      subst h
      obtain ⟨e1, e2, e3⟩ := List.find?_range_eq_some.mp e
      have hk : k ≤ runEnd mask x.1 - x.1 := by
        have := List.mem_range.mp e2
        (first | lia | omega)
      refine ⟨k, by (first | lia | omega), hin k hk, e1, fun m hm => ?_⟩
      rw [hin m (by (first | lia | omega))]
      have := e3 m hm
      simpa using this
    | none =>
      rw [e] at h
      obtain ⟨N, h1, h2, h3, h4⟩ := ih (leap mask x.1 x.2) j h
      have er : advN (tabOf mask) (runEnd mask x.1 - x.1 + 1) (runSt (tabOf mask) x) = runSt (tabOf mask) (leap mask x.1 x.2) := adv_run (tabOf mask) x
      refine ⟨(runEnd mask x.1 - x.1 + 1) + N, by (first | lia | omega), ?_, h3, fun m hm => ?_⟩
      · rw [advN_add, er]
        exact h2
      · by_cases c : m ≤ runEnd mask x.1 - x.1
        · rw [hin m c]
          have := List.find?_eq_none.mp e m (List.mem_range.mpr (by have := runEnd_ge mask x.1; (first | lia | omega)))
          exact Bool.eq_false_iff.mpr this
        · have := h4 (m - (runEnd mask x.1 - x.1 + 1)) (by (first | lia | omega))
          rw [← er, ← advN_add, show runEnd mask x.1 - x.1 + 1 + (m - (runEnd mask x.1 - x.1 + 1)) = m by (first | lia | omega)] at this
          exact this
def FullO (owner : Array (Option Nat)) (x : Nat) : Prop := ∃ i, owner[x]? = some (some i)
theorem full_of {owner : Array (Option Nat)} {x : Nat} (hx : x < owner.size) (h : (owner.getD x (some 0)).isNone = false) : FullO owner x := by
  rw [Array.getD_eq_getD_getElem?, Array.getElem?_eq_getElem hx] at h
  have h : owner[x].isNone = false := h
  cases e : owner[x] with
  | none => rw [e] at h; cases h
  | some i => exact ⟨i, by rw [Array.getElem?_eq_getElem hx, e]⟩
def Own2 (mask : Nat) (L : List Int) (owner : Array (Option Nat)) : Prop := ∀ j i : Nat, owner[j]? = some (some i) → ∃ h, L[i]? = some h ∧ Rch mask (FullO owner) h j
theorem own_step {mask k : Nat} {L : List Int} {owner : Array (Option Nat)} (sz : owner.size = mask + 1) (o2 : Own2 mask L owner) {h : Int} (hk : L[k]? = some h) {j : Nat}
    (hj : layClean.free mask owner (turns mask) (bits h % (mask + 1)) (bits h) = some j) : Own2 mask L (owner.setIfInBounds j (some k)) := by
  obtain ⟨N, h1, h2, h3, h4⟩ := free_path owner (turns mask) (bits h % (mask + 1), bits h) j hj
  have hrun : ∀ m, (advN (tabOf mask) m (runSt (tabOf mask) (bits h % (mask + 1), bits h))).j = posn mask h m := fun m => by
    unfold posn
    rw [start_run]
  rw [hrun] at h2
  have hjl : j < owner.size := by
    have := posn_le mask h N
    (first | lia | omega)
  have f : ∀ z, FullO owner z → FullO (owner.setIfInBounds j (some k)) z := fun z ⟨i, e⟩ => by
    by_cases c : j = z
    · subst c
      exact ⟨k, by rw [Array.getElem?_setIfInBounds_self_of_lt hjl]⟩
    · exact ⟨i, by rw [Array.getElem?_setIfInBounds_ne c]; exact e⟩
  intro j' i e
  by_cases c : j = j'
  · subst c
    rw [Array.getElem?_setIfInBounds_self_of_lt hjl] at e
    have e := Option.some.inj (Option.some.inj e)
    subst e
    refine ⟨h, hk, Rch.mono ⟨N, h1, h2, fun m hm => ?_⟩ f⟩
    have := h4 m hm
    rw [hrun] at this
    exact full_of (by have := posn_le mask h m; (first | lia | omega)) this
  · rw [Array.getElem?_setIfInBounds_ne c] at e
    obtain ⟨h', e1, e2⟩ := o2 j' i e
    exact ⟨h', e1, e2.mono f⟩
def Cov (owner : Array (Option Nat)) (k : Nat) : Prop := ∀ i, i < k → ∃ j : Nat, owner[j]? = some (some i)
theorem cov_step {mask k : Nat} {owner : Array (Option Nat)} (sz : owner.size = mask + 1) (c : Cov owner k) {h : Int} {j : Nat}
    (hj : layClean.free mask owner (turns mask) (bits h % (mask + 1)) (bits h) = some j) : Cov (owner.setIfInBounds j (some k)) (k + 1) := by
  obtain ⟨N, h1, h2, h3, h4⟩ := free_path owner (turns mask) (bits h % (mask + 1), bits h) j hj
  have hrun : ∀ m, (advN (tabOf mask) m (runSt (tabOf mask) (bits h % (mask + 1), bits h))).j = posn mask h m := fun m => by
    unfold posn
    rw [start_run]
  rw [hrun] at h2
  have hjl : j < owner.size := by
    have := posn_le mask h N
    (first | lia | omega)
  intro i hi
  by_cases e : i = k
  · subst e
    exact ⟨j, Array.getElem?_setIfInBounds_self_of_lt hjl⟩
  · obtain ⟨j', ej⟩ := c i (by (first | lia | omega))
    have ne : j ≠ j' := by
      rintro rfl
      rw [Array.getD_eq_getD_getElem?, ej] at h3
      cases h3
    exact ⟨j', by rw [Array.getElem?_setIfInBounds_ne ne]; exact ej⟩
theorem lay_fold2 {mask : Nat} (hm : mask ∈ masks) (L : List Int) : ∀ (hs : List Int) (k : Nat) (owner : Array (Option Nat)), LayOk mask k owner → Own2 mask L owner → Cov owner k → L.drop k = hs → k + hs.length ≤ mask →
    ∃ owner', hs.foldl (init := some (owner, k)) (fun acc h => do
      let (owner, k) ← acc
      let j ← layClean.free mask owner (turns mask) (bits h % (mask + 1)) (bits h)
      pure (owner.setIfInBounds j (some k), k + 1)) = some (owner', k + hs.length) ∧ LayOk mask (k + hs.length) owner' ∧ Own2 mask L owner' ∧ Cov owner' (k + hs.length)
  | [], k, owner, ok, o2, c, _, _ => ⟨owner, rfl, ok, o2, c⟩
  | h :: hs, k, owner, ok, o2, c, hd, hl => by
    rw [List.length_cons] at hl
    obtain ⟨j, hj, ok'⟩ := lay_step ok hm (by (first | lia | omega)) h
    have hk : L[k]? = some h := by
      have := congrArg (·[0]?) hd
      simpa [List.getElem?_drop] using this
    have hd' : L.drop (k + 1) = hs := by
      rw [← List.drop_drop, hd]
      rfl
    obtain ⟨o', e, ok2, o3, c3⟩ := lay_fold2 hm L hs (k + 1) _ ok' (own_step ok.size o2 hk hj) (cov_step ok.size c hj) hd' (by (first | lia | omega))
    refine ⟨o', ?_, ?_, o3, by rw [List.length_cons, show k + (hs.length + 1) = k + 1 + hs.length by (first | lia | omega)]; exact c3⟩
    · rw [List.foldl_cons]
      have e1 : (do
        let (owner, k) ← some (owner, k)
        let j ← layClean.free mask owner (turns mask) (bits h % (mask + 1)) (bits h)
        pure (owner.setIfInBounds j (some k), k + 1) : Option (Array (Option Nat) × Nat)) = some (owner.setIfInBounds j (some k), k + 1) := by
        show (layClean.free mask owner (turns mask) (bits h % (mask + 1)) (bits h)).bind _ = _
        rw [hj]
        rfl
      rw [e1, e, List.length_cons]
      congr 2
      (first | lia | omega)
    · rw [List.length_cons, show k + (hs.length + 1) = k + 1 + hs.length by (first | lia | omega)]
      exact ok2
theorem lay_clean2 {mask : Nat} (hm : mask ∈ masks) (hs : Array Int) (hl : hs.size ≤ mask) : ∃ owner, layClean mask hs = some owner ∧ LayOk mask hs.size owner ∧ Own2 mask hs.toList owner ∧ Cov owner hs.size := by
  have ok0 : LayOk mask 0 (Array.replicate (mask + 1) none) := by
    refine ⟨by simp, ?_, ?_⟩
    · unfold cntO
      rw [Array.toList_replicate]
      simp
    · intro v hv i hi
      rw [Array.toList_replicate] at hv
      rw [List.eq_of_mem_replicate hv] at hi
      cases hi
  have o0 : Own2 mask hs.toList (Array.replicate (mask + 1) none) := fun j i e => by
    rw [Array.getElem?_replicate] at e
    split at e
    · cases e
    · cases e
  obtain ⟨o, e, ok, o2, c2⟩ := lay_fold2 hm hs.toList hs.toList 0 _ ok0 o0 (fun i hi => absurd hi (Nat.not_lt_zero _)) rfl (by rw [Array.length_toList]; (first | lia | omega))
  refine ⟨o, ?_, ?_, o2, by rw [Nat.zero_add, Array.length_toList] at c2; exact c2⟩
  · unfold layClean
    rw [← Array.foldl_toList]
    rw [e]
    rfl
  · rw [Nat.zero_add, Array.length_toList] at ok
    exact ok
theorem relaid_kept {mask finger moves : Nat} {led plain : Bool} (hm : mask ∈ masks) {hs : Array Int} (hl : hs.size ≤ mask) {t : SetTable} {order : Array Nat} (e : laid mask finger moves led plain hs = some (t, order)) :
    t.mask = mask ∧ Srt t.place ∧ (∀ i j : Nat, t.place[i]? = some j → (∃ (k : Nat) (h : Int), order[i]? = some k ∧ hs[k]? = some h ∧ Rch mask (InPl t) h j)) ∧ ∀ k, k < hs.size → ∃ i : Nat, order[i]? = some k := by
  obtain ⟨owner, eo, ok, o2, cv⟩ := lay_clean2 hm hs hl
  unfold laid at e
  rw [eo] at e
  have e := Option.some.inj e
  obtain ⟨et, eo'⟩ := Prod.mk.inj e
  subst et eo'
  have hmem : ∀ j k, (j, k) ∈ ((List.range (mask + 1)).filterMap fun j => (owner.getD j none).map (j, ·)) ↔ owner[j]? = some (some k) := fun j k => by
    rw [List.mem_filterMap]
    constructor
    · rintro ⟨j', hj', ep⟩
      cases q : owner.getD j' none with
      | none => rw [q] at ep; cases ep
      | some z =>
        rw [q] at ep
        have ep : (j', z) = (j, k) := Option.some.inj ep
        obtain ⟨rfl, rfl⟩ := Prod.mk.inj ep
        rw [Array.getD_eq_getD_getElem?] at q
        cases q2 : owner[j']? with
        | none => rw [q2] at q; cases q
        | some w => rw [q2] at q; exact congrArg some q
    · intro h
      have hlt := (Array.getElem?_eq_some_iff.mp h).1
      rw [ok.size] at hlt
      refine ⟨j, List.mem_range.mpr hlt, ?_⟩
      rw [Array.getD_eq_getD_getElem?, h]
      rfl
  generalize hL : ((List.range (mask + 1)).filterMap fun j => (owner.getD j none).map (j, ·)) = L at hmem
  have hsrt : (L.map (·.1)).Pairwise (· < ·) := by
    rw [← hL, List.pairwise_map]
    refine List.Pairwise.filterMap _ (R := (· < ·)) (fun a a' hab b hb b' hb' => ?_) List.pairwise_lt_range
    cases q : owner.getD a none with
    | none => rw [q] at hb; cases hb
    | some z =>
      cases q' : owner.getD a' none with
      | none => rw [q'] at hb'; cases hb'
      | some z' =>
        rw [q] at hb
        rw [q'] at hb'
        have hb : (a, z) = b := Option.some.inj hb
        have hb' : (a', z') = b' := Option.some.inj hb'
        subst hb hb'
        exact hab
  refine ⟨rfl, fun a b x y hab hx hy => ?_, fun i j hj => ?_, fun k hk => ?_⟩
  rotate_right
  · obtain ⟨j, ej⟩ := cv k hk
    obtain ⟨n, hn⟩ := List.mem_iff_getElem?.mp ((hmem j k).mpr ej)
    exact ⟨n, by simp [hn]⟩
  · have hx : (L.map (·.1))[a]? = some x := by simpa using hx
    have hy : (L.map (·.1))[b]? = some y := by simpa using hy
    obtain ⟨h1, e1⟩ := List.getElem?_eq_some_iff.mp hx
    obtain ⟨h2, e2⟩ := List.getElem?_eq_some_iff.mp hy
    rw [← e1, ← e2]
    exact List.pairwise_iff_getElem.mp hsrt a b h1 h2 hab
  · have hj : (L.map (·.1))[i]? = some j := by simpa using hj
    rw [List.getElem?_map] at hj
    cases q : L[i]? with
    | none => rw [q] at hj; cases hj
    | some jk =>
      obtain ⟨j', k⟩ := jk
      rw [q] at hj
      have hj : j' = j := Option.some.inj hj
      subst hj
      obtain ⟨h, e1, e2⟩ := o2 j' k ((hmem j' k).mp (List.mem_of_getElem? q))
      refine ⟨k, h, by simp [q], by rw [← Array.getElem?_toList]; exact e1, e2.mono fun z ⟨i', e'⟩ => ?_⟩
      obtain ⟨n, hn⟩ := List.mem_iff_getElem?.mp ((hmem z i').mpr e')
      exact ⟨n, by simp [hn]⟩
theorem fm_get {α β : Type} (f : α → Option β) : ∀ (l : List α) (i : Nat) (a : α), (∀ x ∈ l, (f x).isSome = true) → l[i]? = some a → (l.filterMap f)[i]? = f a
  | [], i, a, _, h => by simp at h
  | x :: r, i, a, hs, h => by
    have hx := hs x List.mem_cons_self
    rw [List.filterMap_cons]
    cases e : f x with
    | none => rw [e] at hx; cases hx
    | some b =>
      cases i with
      | zero =>
        simp at h
        subst h
        simp [e]
      | succ i =>
        simp at h
        simp
        exact fm_get f r i a (fun z hz => hs z (List.mem_cons_of_mem _ hz)) h
/-- the entries in their new order -/
theorem kept_relaid {mask finger moves : Nat} {led plain : Bool} (hm : mask ∈ masks) {es : Array (Int × Value)} (hl : es.size ≤ mask) {t : SetTable} {order : Array Nat} (e : laid mask finger moves led plain (es.map (·.1)) = some (t, order)) (ho : ∀ i ∈ order.toList, i < es.size) :
    Kept (order.filterMap (es[·]?)) t ∧ ∀ (k : Nat) (x : Int × Value), es[k]? = some x → ∃ i : Nat, (order.filterMap (es[·]?))[i]? = some x := by
  obtain ⟨h1, h2, h3, h4⟩ := relaid_kept hm (by rw [Array.size_map]; exact hl) e
  have all : ∀ i ∈ order.toList, (es[i]?).isSome = true := fun i hi => by rw [Array.getElem?_eq_getElem (ho i hi)]; rfl
  refine ⟨⟨h2, fun i j x hj hx => ?_⟩, fun k x hx => ?_⟩
  rotate_left
  · obtain ⟨i, ei⟩ := h4 k (by rw [Array.size_map]; exact (Array.getElem?_eq_some_iff.mp hx).1)
    exact ⟨i, by rw [← Array.getElem?_toList, Array.toList_filterMap, fm_get _ _ i k all (by rw [Array.getElem?_toList]; exact ei)]; exact hx⟩
  obtain ⟨k, h, e1, e2, e3⟩ := h3 i j hj
  rw [h1]
  have all : ∀ i ∈ order.toList, (es[i]?).isSome = true := fun i hi => by rw [Array.getElem?_eq_getElem (ho i hi)]; rfl
  rw [← Array.getElem?_toList, Array.toList_filterMap, fm_get _ _ i k all (by rw [Array.getElem?_toList]; exact e1)] at hx
  rw [Array.getElem?_map, hx] at e2
  have e2 : x.1 = h := Option.some.inj e2
  rw [e2]
  exact e3
end Fx

set_option Elab.async false
set_option linter.all false
set_option maxRecDepth 100000
namespace Fx
open PySem PySem.SetTable PyProof.Rows
section
variable {prog : Program} {w : World} {K : Type} [DecidableEq K] {knd : KeyKind prog w K} {A : Around} {E : Value → Shared → Prop} {s : Shared}
/-- what stands in a set of tuples, with its hash -/
def ElOf (knd : KeyKind prog w K) (h : Heap) (ks : List (List K)) (es : Array (Int × Value)) : Prop := (∀ e ∈ es.toList, ∃ b k, e = (tupleKeyHash knd k, .ref b) ∧ IsTupleKey knd h k b ∧ k ∈ ks) ∧ ∀ k ∈ ks, ∃ (i : Nat) (b : Addr), es[i]? = some (tupleKeyHash knd k, .ref b) ∧ IsTupleKey knd h k b
/-- a set of tuples at a, by its keys; a search finds them -/
structure SetIs (knd : KeyKind prog w K) (h : Heap) (a : Addr) (ks : List (List K)) : Prop where
  ex : ∃ o es ep t, h.get? a = some o ∧ o.ExactSet ∧ o.data = .set es ep t ∧ TabOk es.size t ∧ es.size * 5 < t.mask * 3 ∧ es.size = ks.length ∧ Kept es t ∧ ElOf knd h ks es
theorem ElOf.keeps {h h' : Heap} {ks : List (List K)} {es : Array (Int × Value)} (x : ElOf knd h ks es) (f : ∀ k b, IsTupleKey knd h k b → IsTupleKey knd h' k b) : ElOf knd h' ks es := by
  refine ⟨fun e he => ?_, fun k hk => ?_⟩
  · obtain ⟨b, k, e1, e2, e3⟩ := x.1 e he
    exact ⟨b, k, e1, f _ _ e2, e3⟩
  · obtain ⟨i, b, e1, e2⟩ := x.2 k hk
    exact ⟨i, b, e1, f _ _ e2⟩
theorem set_is_put {a : Addr} {o : Obj} {es es2 : Array (Int × Value)} {ep : Nat} {t t2 : SetTable} {ks : List (List K)} {h : Heap} (ho : h.get? a = some o) (hex : o.ExactSet) (hd : o.data = .set es ep t) (ok : TabOk es2.size t2) (hfull : es2.size * 5 < t2.mask * 3)
    (hsz : es2.size = ks.length) (hkp : Kept es2 t2) (hel : ElOf knd h ks es2) : SetIs knd (h.update a (Obj.putSet es2 t2)) a ks := by
  exact ⟨_, es2, ep + 1, t2, put_get ho hd, hex, rfl, ok, hfull, hsz, hkp, hel.keeps fun k b x => tup_keeps x ho hd (Heap.SameBut.update ..)⟩
theorem add_tail2 {a : Addr} {o : Obj} {es es2 : Array (Int × Value)} {ep : Nat} {t t2 : SetTable} {ks : List (List K)} {Q : Bool → Shared → Prop} (ho : s.heap.get? a = some o) (hex : o.ExactSet) (hd : o.data = .set es ep t)
    (hfull : es.size * 5 < t.mask * 3) (hm : t2.mask = t.mask) (ok : TabOk es2.size t2) (hs2 : es2.size = es.size + 1) (hl : es2.size ≤ 64) (hsz : es2.size = ks.length)
    (hkp : Kept es2 t2) (hel : ElOf knd s.heap ks es2) (q : ∀ h', Heap.SameBut a s.heap h' → SetIs knd h' a ks → Q true { s with heap := h' }) :
    wpAny (model prog w) A (do
      storeSet a es2 t2
      if (!false && t2.tooFull) = true then do
          setRelay a (grown (es.size + 1))
          pure true
        else pure true) Q E s := by
  refine wpAny_bind (wpAny_storeSet_of ho hd ?_ (big _ (by (first | lia | omega))))
  have hmask := ok.mask
  simp only [masks, List.mem_cons, List.mem_nil_iff, or_false] at hmask
  have efill : t2.fill = es2.size := by
    unfold SetTable.fill
    rw [ok.dum, ok.place]
    simp
  by_cases hf : t2.tooFull = true
  · rw [hf]
    simp only [Bool.not_false, Bool.and_self, if_true]
    have hf' : t2.mask * 3 ≤ es2.size * 5 := by
      unfold SetTable.tooFull at hf
      rw [efill] at hf
      exact of_decide_eq_true hf
    have h1 := put_get (es2 := es2) (t2 := t2) ho hd
    have cases2 : (es2.size = 5 ∧ t2.mask = 7) ∨ (es2.size = 19 ∧ t2.mask = 31) := by
      rcases hmask with e | e | e <;> (first | lia | omega)
    obtain ⟨m, hmm, hsa, hfit⟩ : ∃ m, m ∈ masks ∧ sizeAbove (grown (es.size + 1)) = m + 1 ∧ es2.size * 5 < m * 3 ∧ es2.size ≤ m := by
      rcases cases2 with ⟨e, _⟩ | ⟨e, _⟩
      · refine ⟨31, by decide, ?_, by (first | lia | omega), by (first | lia | omega)⟩
        rw [show es.size + 1 = 5 by (first | lia | omega)]
        decide
      · refine ⟨127, by decide, ?_, by (first | lia | omega), by (first | lia | omega)⟩
        rw [show es.size + 1 = 19 by (first | lia | omega)]
        decide
    refine wpAny_bind ?_
    unfold setRelay
    refine wpAny_bind (wpAny_setState_of h1 rfl ok.fits ?_)
    simp only
    rw [hsa]
    have hm2 : ¬ m + 1 > sizeLine := by
      have : m ≤ 127 := by
        simp only [masks, List.mem_cons, List.mem_nil_iff, or_false] at hmm
        (first | lia | omega)
      exact Nat.not_lt.mpr (big _ (by (first | lia | omega)))
    rw [if_neg hm2]
    obtain ⟨t3, order, er, ok3, hm3, ho3, hlt⟩ := relaid_ok (finger := t2.finger) (moves := t2.movedTo m) (led := t2.led) (plain := t2.plain) hmm (hs := es2.map (·.1)) (by rw [Array.size_map]; exact hfit.2)
    rw [Array.size_map] at ok3 ho3 hlt
    have er2 : t2.relaid (es2.map (·.1)) (grown (es.size + 1)) = some (t3, order) := by
      unfold SetTable.relaid
      rw [hsa]
      exact er
    rw [er2]
    have hsz3 : (order.filterMap (es2[·]?)).size = es2.size := by
      rw [← Array.length_toList, Array.toList_filterMap, fm_all _ _ fun i hi => ?_, Array.length_toList, ho3]
      rw [Array.getElem?_eq_getElem (hlt i hi)]
      rfl
    refine wpAny_bind ?_
    show wpAny _ _ (if ((order.filterMap (es2[·]?)).size != es2.size) = true then _ else pure (order.filterMap (es2[·]?), t3)) _ _ _
    rw [if_neg (by rw [hsz3]; simp)]
    refine wpAny_pure ?_
    simp only
    refine wpAny_storeSet_of h1 rfl ?_ (by rw [hsz3]; exact big _ (by (first | lia | omega)))
    refine wpAny_pure (q _ ((Heap.SameBut.update ..).trans (Heap.SameBut.update ..)) ?_)
    obtain ⟨kp3, all3⟩ := kept_relaid hmm (es := es2) hfit.2 er hlt
    refine set_is_put h1 hex rfl (by rw [hsz3]; exact ok3) (by rw [hsz3, hm3]; exact hfit.1) (by rw [hsz3]; exact hsz) kp3 ⟨fun e he => ?_, fun k hk => ?_⟩
    · rw [Array.toList_filterMap] at he
      obtain ⟨i, _, ei⟩ := List.mem_filterMap.mp he
      have he2 : e ∈ es2.toList := by
        obtain ⟨hi, e3⟩ := Array.getElem?_eq_some_iff.mp ei
        rw [← e3]
        simp
      obtain ⟨b, k, e1, e2, e3⟩ := hel.1 e he2
      exact ⟨b, k, e1, tup_keeps e2 ho hd (Heap.SameBut.update ..), e3⟩
    · obtain ⟨i, b, e1, e2⟩ := hel.2 k hk
      obtain ⟨i', e3⟩ := all3 i _ e1
      exact ⟨i', b, e3, tup_keeps e2 ho hd (Heap.SameBut.update ..)⟩
  · have hf0 : t2.tooFull = false := by simpa using hf
    rw [hf0]
    simp only [Bool.and_false, Bool.false_eq_true, if_false]
    refine wpAny_pure (q _ (Heap.SameBut.update ..) (set_is_put ho hex hd ok ?_ hsz hkp hel))
    unfold SetTable.tooFull at hf0
    rw [efill] at hf0
    have := of_decide_eq_false hf0
    (first | lia | omega)
theorem add_new2 {a c : Addr} {ks : List (List K)} {k : List K} {Q : Bool → Shared → Prop} (hu : A.units < cLine) (S : SetIs knd s.heap a ks) (hk : k ∉ ks) (hl : ks.length ≤ 63) (hx : IsTupleKey knd s.heap k c)
    (q : ∀ h', Heap.SameBut a s.heap h' → SetIs knd h' a (k :: ks) → Q true { s with heap := h' }) : wpAny (model prog w) A (setAddHashed a (.ref c) (tupleKeyHash knd k)) Q E s := by
  obtain ⟨o, es, ep, t, ho, hex, hd, ok, hfull, hsz, hkp, hel⟩ := S.ex
  generalize hh : tupleKeyHash knd k = h
  have hmask := ok.mask
  simp only [masks, List.mem_cons, List.mem_nil_iff, or_false] at hmask
  unfold setAddHashed setAddHashedIn
  refine wpAny_holding (wpAny_bind (wpAny_setState_of ho hd ok.fits ?_))
  simp only
  have eb : byScan (.ref c) es = false := rfl
  rw [eb]
  simp only [Bool.false_eq_true, if_false]
  refine wpAny_bind ?_
  obtain ⟨N, hN, hemp⟩ := meets_empty ok h
  have hN2 : N < 100000 := by
    unfold turns at hN
    (first | lia | omega)
  unfold setSearch
  refine search_new2 hu ho hd ok hx ⟨fun e he => ?_⟩ (fun n hn hemp' hlv => ?_) N 100000 0 none rfl (fun m hm => absurd hm (Nat.not_lt_zero _)) hemp (by (first | lia | omega)) hN2 rfl
  · obtain ⟨b, k', e1, e2, e3⟩ := hel.1 e he
    exact ⟨b, k', by rw [e1], e2, fun z => hk (z ▸ e3)⟩
  have hrch : Rch t.mask (InPl t) h (posn t.mask h n) := ⟨n, hn, rfl, fun m hm => by
    obtain ⟨i, e⟩ := hlv m hm
    exact ⟨i, live_at ok.dum e⟩⟩
  have hnin : ¬ InPl t (posn t.mask h n) := (slot_empty ok.dum hemp').resolve_right fun z => z hkp.srt
  generalize posn t.mask h n = j at hrch hnin
  simp only
  refine wpAny_bind (wpAny_setState_of ho hd ok.fits ?_)
  simp only
  obtain ⟨ok2, hm2⟩ := put_ok ok j (by rcases hmask with e | e | e <;> (first | lia | omega))
  have hsz2 : (insertAt es (t.put j).2 (h, Value.ref c)).size = es.size + 1 := insertAt_size _ _ _
  have hbl := (below_spec hkp.srt j).1
  have hsp : (t.put j).2 ≤ es.size := by
    show below t.place j ≤ es.size
    rw [← ok.place]
    exact hbl
  have hel2 : ElOf knd s.heap (k :: ks) (insertAt es (t.put j).2 (h, Value.ref c)) := by
    refine ⟨fun e he => ?_, fun k' hk' => ?_⟩
    · rcases insertAt_mem he with z | z
      · obtain ⟨b, k', e1, e2, e3⟩ := hel.1 e z
        exact ⟨b, k', e1, e2, List.mem_cons_of_mem _ e3⟩
      · subst z
        exact ⟨c, k, by rw [hh], hx, List.mem_cons_self⟩
    · rcases List.mem_cons.mp hk' with z | z
      · subst z
        exact ⟨(t.put j).2, c, by rw [insertAt_get hsp, if_neg (Nat.lt_irrefl _), if_pos rfl, hh], hx⟩
      · obtain ⟨i, b, e1, e2⟩ := hel.2 k' z
        by_cases ci : i < (t.put j).2
        · exact ⟨i, b, by rw [insertAt_get hsp, if_pos ci]; exact e1, e2⟩
        · exact ⟨i + 1, b, by rw [insertAt_get hsp, if_neg (by (first | lia | omega)), if_neg (by (first | lia | omega)), Nat.add_sub_cancel]; exact e1, e2⟩
  have fin : ∀ t2 : SetTable, TabOk (es.size + 1) t2 → t2.mask = t.mask → t2.place = (t.put j).1.place → wpAny (model prog w) A (do
      storeSet a (insertAt es (t.put j).2 (h, Value.ref c)) t2
      if (!false && t2.tooFull) = true then do
          setRelay a (grown (es.size + 1))
          pure true
        else pure true) Q E s := fun t2 ok2 hm2 hp2 =>
    add_tail2 ho hex hd hfull hm2 (by rw [hsz2]; exact ok2) hsz2 (by rw [hsz2]; (first | lia | omega)) (by rw [hsz2, List.length_cons]; (first | lia | omega)) (hkp.put ok.place.symm hnin hrch hm2 hp2) hel2 q
  have ok3 : TabOk (es.size + 1) { (t.put j).1 with plain := false } := ⟨ok2.place, ok2.dum, ok2.mask, ok2.room⟩
  by_cases hp : (t.put j).1.plain = true
  · rw [if_pos hp]
    refine wpAny_bind (hashBy_tuple hx fun bv => ?_)
    cases bv with
    | true => exact fin _ ok2 hm2 rfl
    | false => exact fin _ ok3 hm2 rfl
  · rw [if_neg hp]
    exact wpAny_bind (wpAny_pure (fin _ ok2 hm2 rfl))
theorem add_found {a c : Addr} {ks : List (List K)} {k : List K} {Q : Bool → Shared → Prop} (hu : A.units < cLine) (S : SetIs knd s.heap a ks) (hk : k ∈ ks) (hx : IsTupleKey knd s.heap k c) (q : Q false s) :
    wpAny (model prog w) A (setAddHashed a (.ref c) (tupleKeyHash knd k)) Q E s := by
  obtain ⟨o, es, ep, t, ho, hex, hd, ok, hfull, hsz, hkp, hel⟩ := S.ex
  obtain ⟨i0, b0, e0, hb0⟩ := hel.2 k hk
  unfold setAddHashed setAddHashedIn
  refine wpAny_holding (wpAny_bind (wpAny_setState_of ho hd ok.fits ?_))
  simp only
  have eb : byScan (.ref c) es = false := rfl
  rw [eb]
  simp only [Bool.false_eq_true, if_false]
  refine wpAny_bind ?_
  have hi0 : i0 < t.place.size := by
    rw [ok.place]
    exact (Array.getElem?_eq_some_iff.mp e0).1
  obtain ⟨N, h1, h2, h3⟩ := hkp.at_ i0 _ _ (Array.getElem?_eq_getElem hi0) e0
  have hN2 : N < 100000 := by
    have hmask := ok.mask
    simp only [masks, List.mem_cons, List.mem_nil_iff, or_false] at hmask
    unfold turns at h1
    (first | lia | omega)
  unfold setSearch
  refine search_found hu ho hd ok hx (fun e he => ?_) e0 hb0 ?_ N 100000 none ?_ (fun m hm => ?_) h1 hN2
  · obtain ⟨b, k', e1, e2, e3⟩ := hel.1 e he
    exact ⟨b, k', by rw [e1], e2⟩
  · exact wpAny_pure q
  · show t.slot (advN t N (t.probeStart _)).j = _
    rw [posn_of, h2]
    exact slot_live hkp.srt (Array.getElem?_eq_getElem hi0)
  · show ∃ i, t.slot (advN t m (t.probeStart _)).j = _
    rw [posn_of]
    obtain ⟨i, e⟩ := h3 m hm
    exact ⟨i, slot_live hkp.srt e⟩
end
end Fx

set_option Elab.async false
set_option linter.all false
set_option maxRecDepth 100000
namespace Fx
open PySem PySem.SetTable PyProof.Rows
/-! ### what is left of a list in a set -/
section
variable {α : Type} [DecidableEq α]
def ddk (acc : List α) (k : α) : List α := if k ∈ acc then acc else k :: acc
def dd (l : List α) : List α := l.foldl ddk []
theorem dd_snoc (l : List α) (k : α) : dd (l ++ [k]) = ddk (dd l) k := by
  unfold dd
  rw [List.foldl_append]
  rfl
theorem ddk_len (acc : List α) (k : α) : (ddk acc k).length ≤ acc.length + 1 := by
  unfold ddk
  split
  · (first | lia | omega)
  · exact Nat.le_refl _
theorem dd_le : ∀ (l acc : List α), (l.foldl ddk acc).length ≤ acc.length + l.length
  | [], acc => Nat.le_refl _
  | a :: l, acc => by
    rw [List.foldl_cons, List.length_cons]
    have h1 := dd_le l (ddk acc a)
    have h2 := ddk_len acc a
    (first | lia | omega)
theorem dd_nodup : ∀ (l acc : List α), (l.foldl ddk acc).length = acc.length + l.length ↔ l.Nodup ∧ ∀ x ∈ l, x ∉ acc
  | [], acc => by simp
  | a :: l, acc => by
    rw [List.foldl_cons, List.length_cons, List.nodup_cons]
    by_cases c : a ∈ acc
    · have e : ddk acc a = acc := if_pos c
      rw [e]
      have := dd_le l acc
      constructor
      · intro h; (first | lia | omega)
      · rintro ⟨_, h⟩; exact absurd c (h a List.mem_cons_self)
    · have e : ddk acc a = a :: acc := if_neg c
      rw [e]
      have ih := dd_nodup l (a :: acc)
      rw [List.length_cons] at ih
      rw [show acc.length + (l.length + 1) = acc.length + 1 + l.length by (first | lia | omega), ih]
      constructor
      · rintro ⟨h1, h2⟩
        refine ⟨⟨fun z => h2 a z List.mem_cons_self, h1⟩, fun x hx => ?_⟩
        rcases List.mem_cons.mp hx with z | z
        · rw [z]; exact c
        · exact fun y => h2 x z (List.mem_cons_of_mem _ y)
      · rintro ⟨⟨h1, h2⟩, h3⟩
        refine ⟨h2, fun x hx y => ?_⟩
        rcases List.mem_cons.mp y with z | z
        · exact h1 (z ▸ hx)
        · exact h3 x (List.mem_cons_of_mem _ hx) z
theorem dd_lt (l : List α) : (dd l).length < l.length ↔ ¬ l.Nodup := by
  have h1 := dd_le l []
  have h2 := dd_nodup l []
  rw [List.length_nil, Nat.zero_add] at h1 h2
  constructor
  · intro h n
    have := h2.mpr ⟨n, fun _ _ => List.not_mem_nil⟩
    unfold dd at h
    (first | lia | omega)
  · intro n
    refine Nat.lt_of_le_of_ne h1 fun e => n (h2.mp e).1
end
section
variable {prog : Program} {w : World} {K : Type} [DecidableEq K] {knd : KeyKind prog w K} {A : Around} {E : Value → Shared → Prop} {s : Shared}
theorem set_kept2 {h h' : Heap} {S I : Addr} {ks : List (List K)} (x : SetIs knd h S ks) (hS : S ≠ I) (kp : ∀ b o, b ≠ I → h.get? b = some o → h'.get? b = some o) (nt : ∀ k, ¬ IsTupleKey knd h k I) : SetIs knd h' S ks := by
  obtain ⟨o, es, ep, t, ho, hex, hd, ok, hf, hz, hkp, hel⟩ := x.ex
  refine ⟨o, es, ep, t, kp S o hS ho, hex, hd, ok, hf, hz, hkp, hel.keeps fun k b e2 => ?_⟩
  have hb : b ≠ I := by
    rintro rfl
    exact nt k e2
  obtain ⟨u, its, n, f1, f2⟩ := e2
  exact ⟨u, its, n, kp b u hb f1, f2⟩
theorem loop_tuples2 {I l S : Addr} {h₀ : Heap} {items : Array Value} {keys : List (List K)} {R : Result → Shared → Prop} (hh : A.handled = none) (hu : A.units + 1 < cLine) (hl₀ : h₀.IsList l items) (hlS : l ≠ S) (hlI : l ≠ I) (hSI : S ≠ I)
    (T : Tups knd h₀ items keys S I) (hb : keys.length ≤ 64)
    (fin : ∀ (h' : Heap) (tk : Nat), SetIs knd h' S (dd keys) → (∀ b o, b ≠ S → b ≠ I → h₀.get? b = some o → h'.get? b = some o) → R (.ok (.ret .none)) { s with heap := h', toks := tk }) :
    ∀ (m i : Nat) (hp : Heap) (tk : Nat), items.size - i = m → i ≤ items.size → hp.IsListIter I l i → SetIs knd hp S (dd (keys.take i)) → (∀ b o, b ≠ S → b ≠ I → h₀.get? b = some o → hp.get? b = some o) →
      codeAny (model prog w) A (.builtin "set.update.loop" ⟨[.ref S, .ref I], []⟩) R { s with heap := hp, toks := tk } := by
  intro m
  induction m with
  | zero =>
    intro i hp tk hm hi it hS kp
    have hl : hp.IsList l items := by
      obtain ⟨o, e, r⟩ := hl₀
      exact ⟨o, kp l o hlS hlI e, r⟩
    refine codeAny_builtin F.entry_set_update_loop ?_
    rw [Around.under_plainId F.plain_set_update_loop _]
    show wpAny _ A.in1 (pyNext (.ref I) >>= _) _ _ _
    refine wpAny_bind (wpAny_pyNext_list_end (by simp [hh]) it hl (by simp; (first | lia | omega)) fun h' eb => ?_)
    show wpAny _ A.in1 (ret Value.none) _ _ _
    have e : keys.take i = keys := List.take_of_length_le (by have := T.len; (first | lia | omega))
    rw [e] at hS
    exact wpAny_pure (fin h' tk (set_kept2 hS hSI (fun b o hb e => eb b o hb e) (iter_not_tuple it)) fun b o h1 h2 e => eb b o h2 (kp b o h1 h2 e))
  | succ m ih =>
    intro i hp tk hm hi it hS kp
    have hl : hp.IsList l items := by
      obtain ⟨o, e, r⟩ := hl₀
      exact ⟨o, kp l o hlS hlI e, r⟩
    have hlt : i < items.size := by (first | lia | omega)
    obtain ⟨b, k, ev, ek, hk, hbS, hbI⟩ := T.at_ i items[i] (by simp [hlt])
    refine codeAny_builtin F.entry_set_update_loop ?_
    rw [Around.under_plainId F.plain_set_update_loop _]
    show wpAny _ A.in1 (pyNext (.ref I) >>= _) _ _ _
    refine wpAny_bind (wpAny_pyNext_list_item it hl (x := items[i]) (by simp [hlt]) fun h' it' sb => ?_)
    rw [ev]
    have kp' : ∀ b o, b ≠ S → b ≠ I → h₀.get? b = some o → h'.get? b = some o := fun b o h1 h2 e => (sb.2 b h2).trans (kp b o h1 h2 e)
    have hS' : SetIs knd h' S (dd (keys.take i)) := set_kept2 hS hSI (fun b o hb e => (sb.2 b hb).trans e) (iter_not_tuple it)
    have hk' : IsTupleKey knd h' k b := tup_kept hk hbS hbI kp'
    show wpAny _ A.in1 (holding [Value.ref b] (setAdd S (.ref b)) >>= _) _ _ _
    refine wpAny_bind (wpAny_holding ?_)
    unfold setAdd
    refine wpAny_holding (wpAny_bind (wpAny_pyHash_tuple (show A.units + 1 < cLine from hu) hk' ?_))
    have htk : keys.take (i + 1) = keys.take i ++ [k] := by rw [List.take_add_one, ek]; rfl
    have hlen : (dd (keys.take i)).length ≤ 63 := by
      have h1 := dd_le (keys.take i) []
      rw [List.length_nil, Nat.zero_add, List.length_take] at h1
      have := T.len
      unfold dd
      (first | lia | omega)
    have go : ∀ h2 : Heap, Heap.SameBut S h' h2 → SetIs knd h2 S (dd (keys.take (i + 1))) → codeAny (model prog w) A (.builtin "set.update.loop" ⟨[.ref S, .ref I], []⟩) R { s with heap := h2, toks := tk + (k.length + 1) } := fun h2 sb2 hS2 => by
      refine ih (i + 1) h2 (tk + (k.length + 1)) (by (first | lia | omega)) hlt ?_ hS2 ?_
      · obtain ⟨o, e, r⟩ := it'
        exact ⟨o, (sb2.2 I hSI.symm).trans e, r⟩
      · exact fun b o h1 h2 e => (sb2.2 b h1).trans (kp' b o h1 h2 e)
    by_cases hin : k ∈ dd (keys.take i)
    · refine add_found (s := { s with heap := h', toks := tk + (k.length + 1) }) (show A.units + 1 < cLine from hu) hS' hin hk' ?_
      refine wpAny_pure ⟨plainId_quiet F.plain_set_update_loop _, ?_⟩
      refine go h' (Heap.SameBut.refl ..) ?_
      rw [htk, dd_snoc, show ddk (dd (keys.take i)) k = dd (keys.take i) from if_pos hin]
      exact hS'
    · refine add_new2 (s := { s with heap := h', toks := tk + (k.length + 1) }) (show A.units + 1 < cLine from hu) hS' hin hlen hk' fun h2 sb2 hS2 => ?_
      refine wpAny_pure ⟨plainId_quiet F.plain_set_update_loop _, ?_⟩
      refine go h2 sb2 ?_
      rw [htk, dd_snoc, show ddk (dd (keys.take i)) k = k :: dd (keys.take i) from if_neg hin]
      exact hS2
theorem set_new2 {h : Heap} {S : Addr} {led : Bool} (hS : h.get? S = some { cls := .type "set", dict := none, data := .set #[] 0 (.fresh 0 0 led) }) : SetIs knd h S [] := by
  have k0 : Kept #[] (SetTable.fresh 0 0 led) := ⟨fun a b x y _ e _ => (nomatch e), fun i j e h _ => (nomatch h)⟩
  have e0 : ElOf knd h [] #[] := ⟨fun e he => (nomatch he), fun k hk => (nomatch hk)⟩
  exact ⟨_, #[], 0, _, hS, ⟨rfl, rfl, rfl⟩, rfl, ⟨rfl, rfl, by show 7 ∈ masks; decide, by show 0 < 8; decide⟩, by show 0 * 5 < 7 * 3; decide, rfl, k0, e0⟩
theorem init_tuples2 {S l : Addr} {led : Bool} {items : Array Value} {keys : List (List K)} {R : Result → Shared → Prop} (hh : A.handled = none) (hu : A.units + 4 < cLine) (hl : s.heap.IsList l items) (hlS : l ≠ S)
    (hS : s.heap.get? S = some { cls := .type "set", dict := none, data := .set #[] 0 (.fresh 0 0 led) })
    (T : Tups knd s.heap items keys S s.heap.objs.size) (hb : keys.length ≤ 64)
    (fin : ∀ (h' : Heap) (tk : Nat), SetIs knd h' S (dd keys) → (∀ b o, b ≠ S → b ≠ s.heap.objs.size → s.heap.get? b = some o → h'.get? b = some o) → R (.ok (.ret .none)) { s with heap := h', toks := tk }) :
    wpAny (model prog w) A (Builtin.«set.__init__» ⟨[.ref S, .ref l], []⟩) (fun f s' => ∃ fl, f = .done fl ∧ R (.ok fl) s') (fun e s' => R (.error e) s') s := by
  have hl2 := hl
  have SA : SetIs knd s.heap S [] := set_new2 hS
  obtain ⟨ol, hol, hcl, nl, hdl⟩ := hl
  obtain ⟨ocls, odict, odata, oslots⟩ := ol
  simp only at hcl hdl
  subst hcl hdl
  have hT : Shared.TypeIs s (.ref S) "set" := ⟨_, hS, rfl⟩
  have hsls := F.sub_list_set
  have hslf := F.sub_list_frozenset
  have hne : (Value.type "list" == Value.type "dict") = false := by decide
  unfold Builtin.«set.__init__» noKeywords Builtin.Frozenset.updateFrom
  generalize hPI : pyIter = PI
  wp_walk
  subst hPI
  refine wpAny_pyIter_list hl2 ?_
  have hSlt : S < s.heap.objs.size := Heap.lt_size hS
  have old : ∀ b o, s.heap.get? b = some o → (s.heap.push { cls := .type "list_iterator", data := .fields #[.ref l, .int 0 0] }).get? b = some o := fun b o e => Heap.get?_push_of_some _ e
  have T' : Tups knd (s.heap.push { cls := .type "list_iterator", data := .fields #[.ref l, .int 0 0] }) items keys S s.heap.objs.size := by
    refine ⟨T.len, fun j v e => ?_⟩
    obtain ⟨b, k, e1, e2, ⟨u, its, n, f1, f2⟩, e4, e5⟩ := T.at_ j v e
    exact ⟨b, k, e1, e2, ⟨u, its, n, old b u f1, f2⟩, e4, e5⟩
  have hl3 : (s.heap.push { cls := .type "list_iterator", data := .fields #[.ref l, .int 0 0] }).IsList l items := by
    obtain ⟨o, e, r⟩ := hl2
    exact ⟨o, old l o e, r⟩
  have hlI : l ≠ s.heap.objs.size := Nat.ne_of_lt (Heap.lt_size hol)
  refine wpAny_bind (wpAny_runValue ?_)
  refine loop_tuples2 (s := s) (h₀ := s.heap.push { cls := .type "list_iterator", data := .fields #[.ref l, .int 0 0] }) (tk := s.toks) hh (by (first | lia | omega)) hl3 hlS hlI (Nat.ne_of_lt hSlt) T' hb ?_ (items.size - 0) 0 _ (by (first | lia | omega)) (Nat.zero_le _) ⟨_, Heap.get?_push_size _ rfl, rfl, rfl⟩ (set_new2 (old S _ hS)) (fun b o _ _ e => e)
  intro h' tk hS' kp
  show wpAny _ _ _ _ _ _
  refine wpAny_pure ?_
  show wpAny _ _ (ret Value.none) _ _ _
  exact wpAny_pure ⟨_, rfl, fin h' tk hS' fun b o h1 h2 e => kp b o h1 h2 (old b o e)⟩
theorem call_set_tuples2 {l : Addr} {items : Array Value} {keys : List (List K)} {Q : Value → Shared → Prop} (hh : A.handled = none) (hu : A.units + 10 < cLine) (hl : s.heap.IsList l items)
    (T : Tups knd s.heap items keys s.heap.objs.size (s.heap.objs.size + 1)) (hb : keys.length ≤ 64)
    (q : ∀ (h' : Heap) (tk : Nat), SetIs knd h' s.heap.objs.size (dd keys) → (∀ b o, b < s.heap.objs.size → s.heap.get? b = some o → h'.get? b = some o) → Q (.ref s.heap.objs.size) { s with heap := h', toks := tk }) :
    wpAny (model prog w) A (call (.type "set") [.ref l]) Q E s := by
  have mro := F.called_set.mro; obtain ⟨c0, tl0, mro⟩ := mro
  have made := F.called_set.made; have subs := F.called_set.sub
  refine wpAny_call (codeAny_of_tree ?_)
  show wpAny _ _ (callAny (.type "set") _) _ _ _
  refine wpAny_pure ⟨Code.quiet_builtin _ (by decide +kernel), codeAny_builtin F.entry_type_call ?_⟩
  rw [Around.under_plain (weight_type_call_type "set" [.ref l] []) rfl]
  have n1 := F.called_set.notType; have n2 := F.called_set.canCreate; have n3 := F.typeCall_set_1 (.ref l)
  repeat (any_goals (first | assumption | wp_step))
  have made1 := code_set_new_1 (prog := prog) (w := w) (A := A.in1) (s := s) (.ref l) (E := E) (Q₁ := fun ob s₁ => ∃ led : Bool, ob = .ref s.heap.objs.size ∧ s₁ = { s with heap := s.heap.push { cls := .type "set", dict := none, data := .set #[] 0 (.fresh 0 0 led) } }) fun led => ⟨led, rfl, rfl⟩
  refine codeAny_mono made1 fun r s₁ hr => ?_
  match r, hr with
  | .error e, hr => exact hr
  | .ok (.ret ob), hr =>
    obtain ⟨led, e1, e2⟩ := hr
    subst e1 e2
    have hS0 : (s.heap.push { cls := .type "set", dict := none, data := .set #[] 0 (.fresh 0 0 led) }).get? s.heap.objs.size = some { cls := .type "set", dict := none, data := .set #[] 0 (.fresh 0 0 led) } := Heap.get?_push_size _ rfl
    have ty0 : Shared.TypeIs { s with heap := s.heap.push { cls := .type "set", dict := none, data := .set #[] 0 (.fresh 0 0 led) } } (.ref s.heap.objs.size) "set" := ⟨_, hS0, rfl⟩
    have li := F.called_set.init.lookup; have bi := F.called_set.init.bind (.ref s.heap.objs.size)
    repeat (any_goals (first | assumption | wp_step))
    have old : ∀ b o, s.heap.get? b = some o → (s.heap.push { cls := .type "set", dict := none, data := .set #[] 0 (.fresh 0 0 led) }).get? b = some o := fun b o e => Heap.get?_push_of_some _ e
    have hl1 : (s.heap.push { cls := .type "set", dict := none, data := .set #[] 0 (.fresh 0 0 led) }).IsList l items := by
      obtain ⟨o, e, r⟩ := hl
      exact ⟨o, old l o e, r⟩
    have hlt : l < s.heap.objs.size := by
      obtain ⟨o, e, r⟩ := hl
      exact Heap.lt_size e
    have T1 : Tups knd (s.heap.push { cls := .type "set", dict := none, data := .set #[] 0 (.fresh 0 0 led) }) items keys s.heap.objs.size (s.heap.push { cls := .type "set", dict := none, data := .set #[] 0 (.fresh 0 0 led) }).objs.size := by
      refine ⟨T.len, fun j v e => ?_⟩
      obtain ⟨b, k, f1, f2, ⟨u, its, n, g1, g2⟩, f4, f5⟩ := T.at_ j v e
      exact ⟨b, k, f1, f2, ⟨u, its, n, old b u g1, g2⟩, f4, by rw [Heap.size_push]; exact f5⟩
    refine codeAny_mono (codeAny_call_builtin (R := wants (fun r s₂ => r = .none ∧ ∃ h' tk, s₂ = { s with heap := h', toks := tk } ∧ SetIs knd h' s.heap.objs.size (dd keys) ∧ (∀ b o, b < s.heap.objs.size → s.heap.get? b = some o → h'.get? b = some o)) E)
      F.called_set.init.plain F.entry_set_init (check_set_init_1 ty0 ?_)) fun r₂ s₂ hr₂ => ?_
    · refine wpAny_mono (init_tuples2 (s := { s with heap := s.heap.push { cls := .type "set", dict := none, data := .set #[] 0 (.fresh 0 0 led) } }) (R := wants (fun r s₂ => r = .none ∧ ∃ h' tk, s₂ = { s with heap := h', toks := tk } ∧ SetIs knd h' s.heap.objs.size (dd keys) ∧ (∀ b o, b < s.heap.objs.size → s.heap.get? b = some o → h'.get? b = some o)) E) (by simp [hh]) ?_ hl1 (Nat.ne_of_lt hlt) hS0 T1 hb ?_) (fun f s' ⟨fl, e, z⟩ => by subst e; exact z) fun e s' z => z
      · show A.units + 1 + 1 + 4 < cLine
        (first | lia | omega)
      · intro h' tk z kp
        refine ⟨rfl, h', tk, rfl, z, fun b o hb2 e => kp b o (Nat.ne_of_lt hb2) ?_ (old b o e)⟩
        rw [Heap.size_push]
        exact Nat.ne_of_lt (Nat.lt_succ_of_lt hb2)
    · match r₂, hr₂ with
      | .error e, z => exact z
      | .ok (.ret rr), z =>
        obtain ⟨z1, h', tk, z2, z3, z4⟩ := z
        subst z1 z2
        repeat (any_goals (first | assumption | wp_step))
        exact q _ _ z3 z4
      | .ok .next, z => exact z.elim
      | .ok .brk, z => exact z.elim
      | .ok .cont, z => exact z.elim
  | .ok .next, hr => exact hr.elim
  | .ok .brk, hr => exact hr.elim
  | .ok .cont, hr => exact hr.elim
end
end Fx
namespace Fx
open PySem PySem.Spec PyProof.Rows L2
theorem SetIs.size {prog : Program} {w : World} {K : Type} [DecidableEq K] {knd : KeyKind prog w K} {h : Heap} {a : Addr} {ks : List (List K)} (x : SetIs knd h a ks) : SetN a ks.length h := by
  obtain ⟨o, es, ep, t, ho, hex, hd, ok, _, hz, _⟩ := x.ex
  exact ⟨o, es, ep, t, ho, hex, hd, ok.fits, hz⟩
section
variable {X : Cx}
theorem call_setT2 (hc : X.calm = true) {k : Nat} (hr : Room k X.A) : CallR X (.type "set") (fun xs H Q => ∃ (p : Addr) (vs : List V) (keys : List (List Key)), xs = [.ref p] ∧ H p = some (.lst vs) ∧ Paired (KeyAt H) vs keys ∧ keys.length ≤ 64 ∧
    ∀ a, H a = none → Q (.ref a) (upd H a (.ext (SetN a (dd keys).length)))) := by
  intro pins s σ H xs us Q I r h
  obtain ⟨p, vs, keys, rfl, hp, pk, hl, q⟩ := h
  obtain ⟨u, rfl, ru⟩ := vals1 r
  cases (show u = Value.ref p from ru)
  obtain ⟨z, its, n, rv, e⟩ := (show ObjOk X.prog X.w H s.heap p (.lst vs) from I.hok p _ hp)
  have hu := hr.units
  have T : Tups (mixKind X.prog X.w) s.heap its.toArray keys s.heap.objs.size (s.heap.objs.size + 1) := by
    refine ⟨?_, fun j v ej => ?_⟩
    · rw [List.size_toArray, ← rv.length]
      exact Paired.length pk
    · have ej : its[j]? = some v := by simpa using ej
      have hj : j < vs.length := by
        rw [rv.length]
        exact (List.getElem?_eq_some_iff.mp ej).1
      obtain ⟨u', e1, e2⟩ := rv.get (i := j) (x := vs[j]) (by simp [hj])
      rw [ej] at e1
      cases e1
      obtain ⟨ky, e3, b, e4, e5⟩ := paired_get pk (i := j) (x := vs[j]) (by simp [hj])
      rw [e4] at e2
      cases (show v = Value.ref b from e2)
      have hb := key_of I.hok e5
      have hlt : b < s.heap.objs.size := I.hok.lt e5
      exact ⟨b, ky, rfl, e3, hb, Nat.ne_of_lt hlt, Nat.ne_of_lt (Nat.lt_succ_of_lt hlt)⟩
  refine call_set_tuples2 (knd := mixKind X.prog X.w) (I.ok.hd hc) (by (first | lia | omega)) ⟨_, e, rfl, n, rfl⟩ T hl fun h' tk hS kp => ?_
  have hn : H s.heap.objs.size = none := I.fresh
  have sn := hS.size
  exact ⟨.ref s.heap.objs.size, _, I.laid (a := s.heap.objs.size) (o := .ext (SetN s.heap.objs.size (dd keys).length)) (t' := tk) (fun b o eb => kp b o (Heap.lt_size eb) eb) (Nat.le_refl _) sn.ok, rfl, q _ hn⟩
theorem firstMet_len {ns : List Int} : ∀ i, i ≤ ns.length → (firstMet (fun i => ns.getD i 0) i).length = (dd (ns.take i)).length ∧ ∀ x, x ∈ firstMet (fun i => ns.getD i 0) i ↔ x ∈ dd (ns.take i)
  | 0, _ => by
    rw [firstMet_zero]
    exact ⟨rfl, fun x => Iff.rfl⟩
  | i + 1, hi => by
    have hlt : i < ns.length := hi
    obtain ⟨h1, h2⟩ := firstMet_len (ns := ns) i (by (first | lia | omega))
    have eg : ns.getD i 0 = ns[i] := by rw [List.getD_eq_getElem?_getD, List.getElem?_eq_getElem hlt]; rfl
    rw [firstMet_succ, List.take_add_one, List.getElem?_eq_getElem hlt, eg]
    show (step_dedup (firstMet (fun i => ns.getD i 0) i) ns[i]).length = (dd (ns.take i ++ [ns[i]])).length ∧ ∀ x, x ∈ step_dedup (firstMet (fun i => ns.getD i 0) i) ns[i] ↔ x ∈ dd (ns.take i ++ [ns[i]])
    rw [dd_snoc]
    unfold step_dedup ddk
    have hany : ((firstMet (fun i => ns.getD i 0) i).any fun x => x == ns[i]) = true ↔ ns[i] ∈ dd (ns.take i) := by
      rw [List.any_eq_true, ← h2]
      constructor
      · rintro ⟨x, hx, e⟩
        have e : x = ns[i] := by simpa using e
        rw [← e]
        exact hx
      · intro h
        exact ⟨_, h, by simp⟩
    by_cases c : ns[i] ∈ dd (ns.take i)
    · rw [if_pos (hany.mpr c), if_pos c]
      exact ⟨h1, h2⟩
    · rw [if_neg (fun z => c (hany.mp z)), if_neg c]
      refine ⟨by rw [List.length_append, List.length_cons, h1]; rfl, fun x => ?_⟩
      rw [List.mem_append, h2, List.mem_singleton, List.mem_cons]
      exact Or.comm
/-- set(xs), ints -/
theorem call_setI2 (hc : X.calm = true) : CallR X (.type "set") (fun xs H Q => ∃ (p : Addr) (ns : List Int), xs = [.ref p] ∧ H p = some (.lst (ns.map V.int)) ∧ ns.length ≤ 64 ∧
    ∀ a, H a = none → Q (.ref a) (upd H a (.ext (SetN a (dd ns).length)))) := by
  intro pins s σ H xs us Q I r h
  obtain ⟨p, ns, rfl, hp, hl, q⟩ := h
  obtain ⟨u, rfl, ru⟩ := vals1 r
  cases (show u = Value.ref p from ru)
  obtain ⟨z, its, n, rv, e⟩ := (show ObjOk X.prog X.w H s.heap p (.lst (ns.map V.int)) from I.hok p _ hp)
  have hlen := rv.length
  rw [List.length_map] at hlen
  have hsz : its.toArray.size = ns.length := by rw [List.size_toArray, hlen]
  refine PySem.call_set_list (l := p) (items := its.toArray) (ns := ns) (I.ok.hd hc) ⟨_, e, rfl, n, rfl⟩ (by simpa using intsAre_of rv) (by rw [hsz]; unfold scanBound; (first | lia | omega)) fun h' tk hS kp => ?_
  have hfm := (firstMet_len (ns := ns) _ (Nat.le_refl _)).1
  rw [List.take_length] at hfm
  rw [hsz] at hS
  obtain ⟨o, es, ep, t, ho, hex, hd, _, _, _, hf, hz⟩ := hS
  have hn : H s.heap.objs.size = none := I.fresh
  have sn : SetN s.heap.objs.size (dd ns).length h' := ⟨o, es, ep, t, ho, hex, hd, hf, by rw [hz, hfm]⟩
  exact ⟨.ref s.heap.objs.size, _, I.laid (a := s.heap.objs.size) (o := .ext (SetN s.heap.objs.size (dd ns).length)) (t' := tk) (fun b o eb => kp b o (Heap.lt_size eb) eb) (Nat.le_refl _) sn.ok, rfl, q _ hn⟩
end
end Fx

set_option Elab.async false
set_option linter.all false
set_option maxRecDepth 100000
namespace Fx
open PySem PySem.Spec PyProof.Rows L2
/-! ### sides, positions as data -/
def sd (t : Bool) : Str := if t = true then "fox" else "hen"
theorem fox_hen : ¬ (("fox" : Str) = "hen") := by decide +kernel
theorem sd_can (t : Bool) : PyData.canLay0 (.str (sd t)) = true := by cases t <;> decide +kernel
theorem open_can : PyData.canLay0 (.str "open") = true := by decide +kernel
theorem sd_inj {t u : Bool} (h : sd t = sd u) : t = u := by
  cases t <;> cases u
  · rfl
  · exact absurd h.symm fox_hen
  · exact absurd h fox_hen
  · rfl
theorem sd_fox (t : Bool) : decide (V.str (sd t) = V.str "fox") = t := by
  cases t
  · exact decide_eq_false fun e => fox_hen (V.str.inj e).symm
  · exact decide_eq_true rfl
def posD (p : Plc) : PyData := .tuple [.int p.f, .int p.h, .str (sd p.t)]
def posV (p : Plc) : List V := [.int p.f, .int p.h, .str (sd p.t)]
def posK (p : Plc) : List Key := [.inl p.f, .inl p.h, .inr (sd p.t)]
theorem posK_inj {p q : Plc} (h : posK p = posK q) : p = q := by
  obtain ⟨a, b, c⟩ := p
  obtain ⟨d, e, f⟩ := q
  unfold posK at h
  injection h with h1 h
  injection h with h2 h
  injection h with h3 _
  injection h1 with h1
  injection h2 with h2
  injection h3 with h3
  simp only at h1 h2 h3
  rw [h1, h2, sd_inj h3]
theorem At.pos {H : Hp} {v : V} {p : Plc} (h : At H v (posD p)) : ∃ a, v = .ref a ∧ H a = some (.tup (posV p)) := by
  cases h with
  | tup e t =>
    cases t with
    | cons a t =>
      cases t with
      | cons b t =>
        cases t with
        | cons c t =>
          cases t
          cases a
          cases b
          cases c
          exact ⟨_, rfl, e⟩
theorem pos_at {H : Hp} {a : Addr} {p : Plc} (h : H a = some (.tup (posV p))) : At H (.ref a) (posD p) := .tup h (.cons (.int _) (.cons (.int _) (.cons (.str (sd_can _)) .nil)))
def wV : Option Bool → V
  | none => .non
  | some t => .str (sd t)
/-- what grows keeps the stable part -/
theorem Ext.grow {G H H' : Hp} (s : Same G H) (h : Same H H') : Ext G H G H' := ⟨Same.refl _, s.trans h, h, fun a o h1 h2 => by rw [h1] at h2; cases h2⟩
theorem any_int (ns : List Int) (z : Int) : (ns.map PyData.int).any (fun e => PyData.eqv e (.int z)) = decide (z ∈ ns) := by
  induction ns with
  | nil => simp
  | cons a r ih =>
    rw [List.map_cons, List.any_cons, ih]
    simp only [PyData.eqv]
    by_cases h : a = z
    · subst h; simp
    · have h' : ¬ z = a := fun e => h e.symm
      simp [h, h']
end Fx

set_option Elab.async false
set_option linter.all false
set_option maxRecDepth 100000
namespace Fx
open PySem PySem.Spec PyProof.Rows L2
section
variable {X : Cx} {K : PySem.W.Frag}
theorem pgTup_K (n : Nat) (h : X.K = K) {es : List Expr} {k : Nat} {t : TGs} {pos : Pos} (hc : X.calm = true) (hg : PGs X es t) (hn : (assignEach es X.env).length = n := by rfl) (hst : (assignEach es X.env).findIdx? (·.1) = none := by rfl) :
    PG X (.Tuple es k pos) (gTup K n t) := by
  subst h
  exact pg_tup hc hg hn hst
end
/-! ### verdicts as data -/
def vD (w : Bool × Nat) : PyData := .tuple [.str (sd w.1), .int (w.2 : Int)]
theorem At.vd {H : Hp} {v : V} {w : Bool × Nat} (h : At H v (vD w)) : ∃ a, v = .ref a ∧ H a = some (.tup [.str (sd w.1), .int (w.2 : Int)]) := by
  cases h with
  | tup e t =>
    cases t with
    | cons a t =>
      cases t with
      | cons b t =>
        cases t
        cases a
        cases b
        exact ⟨_, rfl, e⟩
theorem vd_at {H : Hp} {a : Addr} {w : Bool × Nat} (h : H a = some (.tup [.str (sd w.1), .int (w.2 : Int)])) : At H (.ref a) (vD w) := .tup h (.cons (.str (sd_can _)) (.cons (.int _) .nil))
/-- a verdict or None -/
def ValAt (G : Hp) (v : V) : Val → Prop
  | none => v = .non
  | some w => At G v (vD w)
theorem ValAt.mono {G G' : Hp} {v : V} {x : Val} (h : ValAt G v x) (s : Same G G') : ValAt G' v x := by
  cases x with
  | none => exact h
  | some w => exact At.mono s h
/-- the dict at a tells k -/
structure Tells (G : Hp) (kvs : List (List Key × V)) (ps : List Plc) (k : Plc → Val) : Prop where
  keys : kvs.map (·.1) = ps.map posK
  nd : ps.Nodup
  has : ∀ p, p ∈ ps ↔ (k p).isSome = true
  at_ : ∀ p, ValAt G ((valV kvs (posK p)).getD .non) (k p)
theorem Tells.mono {G G' : Hp} {kvs : List (List Key × V)} {ps : List Plc} {k : Plc → Val} (h : Tells G kvs ps k) (s : Same G G') : Tells G' kvs ps k :=
  ⟨h.keys, h.nd, h.has, fun p => (h.at_ p).mono s⟩
theorem Tells.len {G : Hp} {kvs : List (List Key × V)} {ps : List Plc} {k : Plc → Val} (h : Tells G kvs ps k) : kvs.length = ps.length := by
  rw [← List.length_map (f := (·.1)), h.keys, List.length_map]
theorem Tells.put {G : Hp} {kvs : List (List Key × V)} {ps : List Plc} {k : Plc → Val} (h : Tells G kvs ps k) {p : Plc} {v : V} {w : Bool × Nat} (hp : p ∉ ps) (hv : At G v (vD w)) :
    Tells G (putK kvs (posK p) v) (ps ++ [p]) (fun q => if q = p then some w else k q) := by
  have hno : valV kvs (posK p) = none := by
    cases e : valV kvs (posK p) with
    | none => rfl
    | some u =>
      have hm := valV_in e
      rw [h.keys] at hm
      obtain ⟨q, hq, eq⟩ := List.mem_map.mp hm
      rw [posK_inj eq] at hq
      exact absurd hq hp
  refine ⟨?_, ?_, fun q => ?_, fun q => ?_⟩
  · rw [putK_new v hno, List.map_append, h.keys, List.map_append]
    rfl
  · exact nd_snoc h.nd hp
  · by_cases e : q = p
    · subst e; simp
    · rw [if_neg e, ← h.has q]
      simp [e]
  · rw [valV_put]
    by_cases e : q = p
    · subst e
      rw [if_pos rfl, if_pos rfl]
      exact hv
    · rw [if_neg (fun z => e (posK_inj z)), if_neg e]
      exact h.at_ q
theorem Tells.congr {G : Hp} {kvs : List (List Key × V)} {ps : List Plc} {k k' : Plc → Val} (h : Tells G kvs ps k) (e : ∀ p, k p = k' p) : Tells G kvs ps k' := by
  have : k = k' := funext e
  subst this
  exact h
/-- the dict holds for each of ps the data d -/
structure TellsD (G : Hp) (kvs : List (List Key × V)) (ps : List Plc) (d : Plc → PyData) : Prop where
  keys : kvs.map (·.1) = ps.map posK
  nd : ps.Nodup
  at_ : ∀ p ∈ ps, ∃ v, valV kvs (posK p) = some v ∧ At G v (d p)
theorem TellsD.mono {G G' : Hp} {kvs : List (List Key × V)} {ps : List Plc} {d : Plc → PyData} (h : TellsD G kvs ps d) (s : Same G G') : TellsD G' kvs ps d :=
  ⟨h.keys, h.nd, fun p hp => let ⟨v, e, a⟩ := h.at_ p hp; ⟨v, e, a.mono s⟩⟩
theorem TellsD.len {G : Hp} {kvs : List (List Key × V)} {ps : List Plc} {d : Plc → PyData} (h : TellsD G kvs ps d) : kvs.length = ps.length := by
  rw [← List.length_map (f := (·.1)), h.keys, List.length_map]
theorem TellsD.put {G : Hp} {kvs : List (List Key × V)} {ps : List Plc} {d : Plc → PyData} (h : TellsD G kvs ps d) {p : Plc} {v : V} (hp : p ∉ ps) (hv : At G v (d p)) : TellsD G (putK kvs (posK p) v) (ps ++ [p]) d := by
  have hno : valV kvs (posK p) = none := by
    cases e : valV kvs (posK p) with
    | none => rfl
    | some u =>
      have hm := valV_in e
      rw [h.keys] at hm
      obtain ⟨q, hq, eq⟩ := List.mem_map.mp hm
      rw [posK_inj eq] at hq
      exact absurd hq hp
  refine ⟨?_, nd_snoc h.nd hp, fun q hq => ?_⟩
  · rw [putK_new v hno, List.map_append, h.keys, List.map_append]
    rfl
  · rw [valV_put]
    by_cases e : q = p
    · subst e
      exact ⟨v, by rw [if_pos rfl], hv⟩
    · rw [if_neg (fun z => e (posK_inj z))]
      rcases List.mem_append.mp hq with z | z
      · exact h.at_ q z
      · simp at z
        exact absurd z e
/-! ### rounds upon the board's positions -/
end Fx

set_option Elab.async false
set_option linter.all false
set_option maxRecDepth 100000
namespace Fx
open PySem PySem.Spec PyProof.Rows L2
theorem few_pos {B : Brd} (g : Good B) {ps : List Plc} (nd : ps.Nodup) (sub : ∀ p ∈ ps, p ∈ allPos B.n) : ps.length ≤ 98 := by
  have hsub : ps.length ≤ (allPos B.n).length := by
    generalize allPos B.n = qs at sub
    induction ps generalizing qs with
    | nil => exact Nat.zero_le _
    | cons p r ih =>
      obtain ⟨n1, n2⟩ := List.nodup_cons.mp nd
      have hp := sub p List.mem_cons_self
      have := ih n2 (qs.erase p) fun q hq => by
        refine (List.mem_erase_of_ne ?_).mpr (sub q (List.mem_cons_of_mem _ hq))
        rintro rfl
        exact n1 hq
      rw [List.length_erase_of_mem hp] at this
      have := List.length_pos_of_mem hp
      rw [List.length_cons]
      (first | lia | omega)
  rw [allPos_len] at hsub
  have h7 := g.few
  have : 2 * B.n * B.n ≤ 2 * 7 * 7 := Nat.mul_le_mul (Nat.mul_le_mul_left _ h7) h7
  (first | lia | omega)
theorem tells_len {G : Hp} {B : Brd} {kvs : List (List Key × V)} {ps : List Plc} {k : Plc → Val} (h : Tells G kvs ps k) (hk : ∀ p, (k p).isSome = true → p ∈ allPos B.n) (g : Good B) : kvs.length < sizeLine := by
  rw [h.len]
  have := few_pos g h.nd fun p hp => hk p ((h.has p).mp hp)
  exact small1000 (by (first | lia | omega))
theorem take_mem {α : Type} {l : List α} {i : Nat} {x : α} (h : l[i]? = some x) (q : α) : q ∈ l.take (i + 1) ↔ q = x ∨ q ∈ l.take i := by
  rw [List.take_add_one, h]
  simp [or_comm]
theorem take_new {α : Type} {l : List α} (hn : l.Nodup) {i : Nat} {x : α} (h : l[i]? = some x) : x ∉ l.take i := by
  intro z
  obtain ⟨hi, e⟩ := List.getElem?_eq_some_iff.mp h
  obtain ⟨j, hj, ej⟩ := List.mem_iff_getElem.mp z
  rw [List.length_take] at hj
  rw [List.getElem_take] at ej
  exact List.pairwise_iff_getElem.mp hn j i (by (first | lia | omega)) hi (by (first | lia | omega)) (ej.trans e.symm)
end Fx

set_option Elab.async false
set_option linter.all false
set_option maxRecDepth 100000
namespace Fx
open PySem PySem.Spec PyProof.Rows L2
/-! ### the least of several -/
def leastI : List Int → Option Int
  | [] => none
  | a :: l => match leastI l with
    | none => some a
    | some b => some (if a ≤ b then a else b)
theorem leastI_some : ∀ {l : List Int}, l ≠ [] → ∃ m, leastI l = some m ∧ m ∈ l ∧ ∀ a ∈ l, m ≤ a
  | [], h => absurd rfl h
  | a :: l, _ => by
    by_cases hl : l = []
    · subst hl
      exact ⟨a, rfl, List.mem_cons_self, fun b hb => by simp at hb; (first | lia | omega)⟩
    · obtain ⟨m, e, hm, hle⟩ := leastI_some hl
      refine ⟨if a ≤ m then a else m, by rw [leastI, e], ?_, fun b hb => ?_⟩
      · split
        · exact List.mem_cons_self
        · exact List.mem_cons_of_mem _ hm
      · rcases List.mem_cons.mp hb with rfl | hb
        · split <;> (first | lia | omega)
        · have := hle b hb
          split <;> (first | lia | omega)
/-! ### the move told -/
def prevV (v : Val) : Val := v.map fun w => (w.1, w.2 - 1)
def fitB (B : Brd) (p : Plc) : List Int := (waysB B p).filter fun y => decide (verd B (nxt p y) = prevV (verd B p))
def moveB (B : Brd) (p : Plc) : Option Int := if (winAt B p).isSome = true then none else leastI (fitB B p)
theorem mem_fit {B : Brd} {p : Plc} {y : Int} : y ∈ fitB B p ↔ y ∈ waysB B p ∧ verd B (nxt p y) = prevV (verd B p) := by
  unfold fitB
  rw [List.mem_filter, decide_eq_true_eq]
theorem fit_of {B : Brd} {p q : Plc} (hq : q ∈ (gameOf B).mv p) (h : verd B q = prevV (verd B p)) : fitB B p ≠ [] := by
  obtain ⟨y, hy, rfl⟩ := List.mem_map.mp hq
  exact List.ne_nil_of_mem (mem_fit.mpr ⟨hy, h⟩)
theorem fit_ne {B : Brd} (g : Good B) {p : Plc} (hp : p ∈ allPos B.n) (h : winAt B p = none) : fitB B p ≠ [] := by
  cases e : verd B p with
  | none =>
    obtain ⟨_, _, q, hq, eq⟩ := fin_open (closed g) hp e
    exact fit_of hq (by rw [e]; exact eq)
  | some w =>
    obtain ⟨s, n⟩ := w
    rcases turn_or p.t s with z | z
    · subst z
      obtain ⟨m, rfl, hw⟩ := fin_mover (closed g) hp h e
      obtain ⟨q, hq, eq⟩ := hw.has
      exact fit_of hq (by rw [e]; exact eq)
    · subst z
      obtain ⟨m, rfl, hl⟩ := fin_other (closed g) hp h e
      obtain ⟨q, hq, eq⟩ := hl.has
      exact fit_of hq (by rw [e]; exact eq)
theorem move_some {B : Brd} (g : Good B) {p : Plc} (hp : p ∈ allPos B.n) (h : winAt B p = none) : ∃ y, moveB B p = some y ∧ y ∈ waysB B p ∧ verd B (nxt p y) = prevV (verd B p) ∧ ∀ z ∈ fitB B p, y ≤ z := by
  obtain ⟨y, e, hm, hle⟩ := leastI_some (fit_ne g hp h)
  obtain ⟨h1, h2⟩ := mem_fit.mp hm
  refine ⟨y, ?_, h1, h2, hle⟩
  unfold moveB
  rw [h, if_neg (by simp), e]
theorem move_none {B : Brd} {p : Plc} {s : Bool} (h : winAt B p = some s) : moveB B p = none := by
  unfold moveB
  rw [h]
  rfl
theorem verd_win {B : Brd} {p : Plc} {s : Bool} (h : winAt B p = some s) : verd B p = some (s, 0) := fin_win h
theorem verd_pos {B : Brd} {p : Plc} {s : Bool} {n : Nat} (h : winAt B p = none) (hv : verd B p = some (s, n)) : 1 ≤ n := fin_zero h hv (goes B)
/-! ### entries as data -/
def whoS : Val → Str
  | some w => sd w.1
  | none => "open"
def cntD : Val → PyData
  | some w => .int (w.2 : Int)
  | none => .none
def cntV : Val → V
  | some w => .int (w.2 : Int)
  | none => .non
def mvD : Option Int → PyData
  | some y => .int y
  | none => .none
def mvV : Option Int → V
  | some y => .int y
  | none => .non
theorem who_can (v : Val) : PyData.canLay0 (.str (whoS v)) = true := by
  cases v with
  | none => exact open_can
  | some w => exact sd_can w.1
theorem cnt_at {H : Hp} (v : Val) : At H (cntV v) (cntD v) := by
  cases v with
  | none => exact .non
  | some w => exact .int _
theorem mv_at {H : Hp} (m : Option Int) : At H (mvV m) (mvD m) := by
  cases m with
  | none => exact .non
  | some w => exact .int _
theorem cnt_of {H : Hp} {x : V} {v : Val} (h : At H x (cntD v)) : x = cntV v := by
  cases v with
  | none => cases h; rfl
  | some w => cases h; rfl
theorem mv_of {H : Hp} {x : V} {v : Option Int} (h : At H x (mvD v)) : x = mvV v := by
  cases v with
  | none => cases h; rfl
  | some w => cases h; rfl
theorem any_str (ns : List Str) (z : Str) : (ns.map PyData.str).any (fun e => PyData.eqv e (.str z)) = decide (z ∈ ns) := by
  induction ns with
  | nil => simp
  | cons a r ih =>
    rw [List.map_cons, List.any_cons, ih]
    simp only [PyData.eqv]
    by_cases h : a = z
    · subst h; simp
    · have h' : ¬ z = a := fun e => h e.symm
      simp [h, h']
theorem seq_two {a b : TS} {D : Ends} {σ : L2.St} {H : Hp} (M : L2.St → Hp → Prop) (h2 : ∀ σ H, M σ H → b D σ H) (h1 : (∀ σ H, M σ H → b D σ H) → a { D with nx := b D } σ H) : tSeq a b D σ H := h1 h2
theorem atAll_strs {H : Hp} : ∀ {ns : List Str}, (∀ z ∈ ns, PyData.canLay0 (.str z) = true) → AtAll H (ns.map V.str) (ns.map PyData.str)
  | [], _ => .nil
  | n :: r, h => .cons (.str (h n List.mem_cons_self)) (atAll_strs fun z hz => h z (List.mem_cons_of_mem _ hz))
end Fx

set_option Elab.async false
set_option linter.all false
set_option maxRecDepth 100000
namespace Fx
open PySem PySem.Spec PyProof.Rows L2
/-! ### a dict by its raw object: iter, next, truth -/
def RawD (h : Heap) (d : Addr) (es : Array DictEntry) (ep : Nat) : Prop := ∃ o, h.get? d = some o ∧ o.ExactDict ∧ o.data = .dict es ep
section
variable {prog : Program} {w : World} {A : Around} {E : Value → Shared → Prop} {s : Shared} {d it : Addr} {es : Array DictEntry} {ep i : Nat}
theorem RawD.isDict (D : RawD s.heap d es ep) : s.TypeIs (.ref d) "dict" := by
  obtain ⟨ob, e1, e2, _⟩ := D
  exact ⟨ob, e1, e2.1⟩
theorem raw_iter {Q : Value → Shared → Prop} (big : (d == sysModules) = false) (D : RawD s.heap d es ep)
    (q : Q (.ref s.heap.objs.size) { s with heap := s.heap.push { cls := .type "dict_keyiterator", data := .fields #[.ref d, .int 0 0, .int es.size 0, .int ep 0] } }) :
    wpAny (model prog w) A (pyIter (.ref d)) Q E s := by
  obtain ⟨ob, e1, e2, e3⟩ := id D
  have ty := D.isDict
  refine wpAny_pyIter_slot ty PySem.F.slot_dict_iter (wpAny_call_entry PySem.F.slot_dict_iter ty PySem.F.entry_dict_iter ?_ (PySem.F.args_dict_iter_1 _))
  unfold Builtin.«dict.__iter__»; refine wpAny_bind ?_
  unfold Builtin.Dict.dictSlotNone; refine wpAny_bind (wpAny_notOrdered_dict ty ?_)
  show wpAny _ _ (pure (Value.ref d)) _ _ s; refine wpAny_pure ?_
  show wpAny _ _ (Builtin.Dict.showsAll d >>= _) _ _ s; unfold Builtin.Dict.showsAll
  rw [if_neg (by rw [big]; exact Bool.false_ne_true)]; refine wpAny_bind (wpAny_pure ?_)
  refine wpAny_bind (wpAny_dictEntries e1 e3 ?_); refine wpAny_bind (wpAny_dictEpoch e1 e3 ?_)
  refine wpAny_bind (wpAny_newObj_type (wpAny_pure ⟨_, rfl, "dict_keyiterator", _, ⟨_, Heap.get?_push_size _ rfl, rfl⟩, PySem.F.slot_dict_keyiterator_next.lookup, ?_⟩)); simpa [rawInt] using q
theorem raw_item {Q : Option Value → Shared → Prop} {e : DictEntry} (T : s.heap.IsKeyIter it d i es.size ep) (D : RawD s.heap d es ep) (hx : es[i]? = some e)
    (q : ∀ h', h'.IsKeyIter it d (i + 1) es.size ep → Heap.SameBut it s.heap h' → Q (some e.key) { s with heap := h' }) : wpAny (model prog w) A (pyNext (.ref it)) Q E s := by
  obtain ⟨oi, i1, i2, i3⟩ := id T
  obtain ⟨ob, e1, e2, e3⟩ := id D
  have ty := T.typeIs
  unfold pyNext; refine wpAny_bind (wpAny_attempt (wpAny_callSpecial?_slot (name := Str.ofString "__next__") ty PySem.F.slot_dict_keyiterator_next (wpAny_call_entry PySem.F.slot_dict_keyiterator_next ty PySem.F.entry_dict_keyiterator_next ?_ (PySem.F.args_dict_keyiterator_next_1 _))))
  refine wpAny_bind (wpAny_pure ?_); refine wpAny_bind ?_; refine wpAny_bind ?_
  first | refine wpAny_bind (wpAny_typeNameOfWhole_keyiter ty (wpAny_pure ?_)) | refine wpAny_bind (wpAny_typeNameOf_keyiter ty (wpAny_pure ?_))
  refine wpAny_bind (wpAny_fieldsOf i1 i3 ?_)
  have own : Builtin.Dict_items.ownsTuple "dict_keyiterator" = false := by decide
  simp only [own, Bool.false_eq_true, if_false]; show wpAny _ _ (if (Value.ref d == Value.none) = true then _ else _) _ _ s
  rw [if_neg (show ¬ ((Value.ref d == Value.none) = true) from Bool.false_ne_true)]; refine wpAny_bind (wpAny_pure ?_)
  refine wpAny_bind (wpAny_dictEntries e1 e3 ?_); rw [if_neg (by simp)]
  refine wpAny_bind (wpAny_pure ?_); refine wpAny_bind (wpAny_dictEpoch e1 e3 ?_)
  rw [if_neg (by simp)]; refine wpAny_pure ?_
  simp only [show ¬ ((i : Int) < 0) from by (first | lia | omega), if_false, Int.toNat_natCast, hx]; refine wpAny_bind ?_
  first | refine wpAny_bind (wpAny_typeNameOfWhole_keyiter ty (wpAny_pure ?_)) | refine wpAny_bind (wpAny_typeNameOf_keyiter ty (wpAny_pure ?_))
  refine wpAny_bind (wpAny_isOneOf_keyiter ty ?_); show wpAny _ _ (setField (.ref it) 1 (rawInt ((i : Int) + 1)) >>= _) _ _ s
  refine wpAny_bind (wpAny_setField i1 i3 (by simp) ?_)
  have T2 : (s.heap.update it (Obj.mapFields (·.setIfInBounds 1 (rawInt ((i : Int) + 1))))).IsKeyIter it d (i + 1) es.size ep :=
    ⟨_, Heap.get?_update_self _ i1 (Obj.isFreed_of_fields (Obj.data_mapFields i3 _)), (Obj.cls_mapFields ..).trans i2, by rw [Obj.data_mapFields i3]; simp [rawInt]⟩
  refine wpAny_bind (wpAny_holding ?_); refine wpAny_bind (wpAny_isOneOf_keyiter (s := { s with heap := s.heap.update it (Obj.mapFields (·.setIfInBounds 1 (rawInt ((i : Int) + 1)))) }) T2.typeIs ?_)
  show wpAny _ _ (pure e.key) _ _ _; exact wpAny_pure (wpAny_pure ⟨_, rfl, wpAny_pure (q _ T2 (Heap.SameBut.update ..))⟩)
theorem raw_end {Q : Option Value → Shared → Prop} (hh : A.handled = none) (T : s.heap.IsKeyIter it d i es.size ep) (D : RawD s.heap d es ep) (hx : es.size ≤ i)
    (q : ∀ h', Heap.ExtBut it s.heap h' → Q none { s with heap := h' }) : wpAny (model prog w) A (pyNext (.ref it)) Q E s := by
  obtain ⟨oi, i1, i2, i3⟩ := id T
  obtain ⟨ob, e1, e2, e3⟩ := id D
  have ty := T.typeIs
  unfold pyNext; refine wpAny_bind (wpAny_attempt (wpAny_callSpecial?_slot (name := Str.ofString "__next__") ty PySem.F.slot_dict_keyiterator_next (wpAny_call_entry PySem.F.slot_dict_keyiterator_next ty PySem.F.entry_dict_keyiterator_next ?_ (PySem.F.args_dict_keyiterator_next_1 _))))
  refine wpAny_bind (wpAny_pure ?_); refine wpAny_bind ?_; refine wpAny_bind ?_
  first | refine wpAny_bind (wpAny_typeNameOfWhole_keyiter ty (wpAny_pure ?_)) | refine wpAny_bind (wpAny_typeNameOf_keyiter ty (wpAny_pure ?_))
  refine wpAny_bind (wpAny_fieldsOf i1 i3 ?_)
  have own : Builtin.Dict_items.ownsTuple "dict_keyiterator" = false := by decide
  simp only [own, Bool.false_eq_true, if_false]; show wpAny _ _ (if (Value.ref d == Value.none) = true then _ else _) _ _ s
  rw [if_neg (show ¬ ((Value.ref d == Value.none) = true) from Bool.false_ne_true)]; refine wpAny_bind (wpAny_pure ?_)
  refine wpAny_bind (wpAny_dictEntries e1 e3 ?_); rw [if_neg (by simp)]
  refine wpAny_bind (wpAny_pure ?_); refine wpAny_bind (wpAny_dictEpoch e1 e3 ?_)
  rw [if_neg (by simp)]; refine wpAny_pure ?_
  simp only [show ¬ ((i : Int) < 0) from by (first | lia | omega), if_false, Int.toNat_natCast, Array.getElem?_eq_none hx]; refine wpAny_bind ?_
  first | refine wpAny_bind (wpAny_typeNameOfWhole_keyiter ty (wpAny_pure ?_)) | refine wpAny_bind (wpAny_typeNameOf_keyiter ty (wpAny_pure ?_))
  show wpAny _ _ (setField (.ref it) 0 .none >>= _) _ _ s; refine wpAny_bind (wpAny_setField i1 i3 (by simp) ?_)
  show wpAny _ _ (newExc (.type "StopIteration") [] >>= _) _ _ _; refine wpAny_bind ?_
  simp only [newExc, newTuple]; refine wpAny_bind (wpAny_newObj_type ?_ (by size_fits))
  refine wpAny_bind (m := firstArgMember _ _) (wpAny_of_eq (a := Value.none) (by first | rfl | (simp only [firstArgMember]; rfl)) ?_); refine wpAny_newObj_type ?_ (by size_fits)
  simp only [raiseNew]; refine wpAny_bind (wpAny_handled ?_)
  rw [show A.in1.handled = none from hh]; refine wpAny_bind (wpAny_pure (wpAny_throw ?_))
  refine wpAny_bind (wpAny_isInstance (T := "StopIteration") (b := true) ⟨_, Heap.get?_push_size _ rfl, rfl⟩ isSubtype_stop ?_); exact wpAny_pure (q _ (((Heap.SameBut.update ..).extBut.push _).push _))
theorem raw_len {Q : Value → Shared → Prop} (big : (d == sysModules) = false) (D : RawD s.heap d es ep) (fit : (es.size : Int) < 2 ^ 63)
    (q : Q (.int es.size (s.toks + 1)) { s with toks := s.toks + 1 + 1 }) : wpAny (model prog w) A (Builtin.«len» ⟨[.ref d], []⟩) (fun fin s' => ∃ r, fin = .done (.ret r) ∧ Q r s') E s := by
  obtain ⟨ob, e1, e2, e3⟩ := id D
  have ty := D.isDict
  have me : MeetsIn prog w (Builtin.«dict.__len__» ⟨[.ref d], []⟩) (fun _ R s => RawD s.heap d es ep ∧ R (.ok (.ret (.int es.size s.toks))) { s with toks := s.toks + 1 }) := .of_wp fun A R s ⟨D', h⟩ => by
    obtain ⟨ob', f1, f2, f3⟩ := D'
    show wpAny _ _ (dictSize d >>= _) _ _ s; unfold dictSize
    refine wpAny_bind (wpAny_bind (wpAny_dictEntries f1 f3 (wpAny_pure ?_))); show wpAny _ _ (Builtin.Dict.pendingCount d >>= _) _ _ s
    refine wpAny_bind (wpAny_pendingCount_other big ?_); refine wpAny_ret_mkInt ?_
    rw [Nat.add_zero]; exact h
  unfold Builtin.«len»; refine wpAny_bind (m := oneArg "len" _) (wpAny_pure ?_)
  refine wpAny_bind (m := callSpecial? (.ref d) (Str.ofString "__len__")) (wpAny_callSpecial?_slot (name := Str.ofString "__len__") ty PySem.F.slot_dict_len (call_meetsIn PySem.F.slot_dict_len ty PySem.F.entry_dict_len (PySem.F.args_dict_len_1 _) me ⟨D, ?_⟩))
  show wpAny _ _ _ _ _ { s with toks := s.toks + 1 }; refine wpAny_bind (wpAny_holding (wpAny_pure ?_)); refine wpAny_bind (wpAny_letGo ?_)
  show wpAny _ _ (if ((es.size : Nat) : Int) < 0 then _ else _) _ _ _; rw [if_neg (by (first | lia | omega))]
  show wpAny _ _ (if ((es.size : Nat) : Int) ≥ 2 ^ 63 then _ else _) _ _ _; rw [if_neg (by (first | lia | omega))]
  exact wpAny_bind (wpAny_mkInt (wpAny_pure ⟨_, rfl, q⟩))
theorem raw_truth {Q : Bool → Shared → Prop} (big : (d == sysModules) = false) (D : RawD s.heap d es ep) (fit : (es.size : Int) < 2 ^ 63)
    (q : Q (decide (es.size ≠ 0)) { s with toks := s.toks + 1 + 1 }) : wpAny (model prog w) A (truthy (.ref d)) Q E s := by
  have ne : ((es.size : Int) != 0) = decide (es.size ≠ 0) := by
    by_cases z : es.size = 0
    · rw [z]; rfl
    · rw [decide_eq_true z]; exact bne_iff_ne.mpr (by (first | lia | omega))
  have ty := D.isDict
  have key : wpAny (model prog w) A (runValue (.builtin "len" ⟨[.ref d], []⟩)) (fun r s' => r = .int es.size (s.toks + 1) ∧ Q (decide (es.size ≠ 0)) s') E s := by
    refine wpAny_runValue (codeAny_builtin entry_len ?_); rw [Around.under_plainId plain_len _]
    exact wpAny_mono (raw_len (Q := fun r s' => r = .int es.size (s.toks + 1) ∧ Q (decide (es.size ≠ 0)) s') big D fit ⟨rfl, q⟩) (fun fin s' h' => by obtain ⟨r, rfl, hq⟩ := h'; exact hq) fun _ _ e => e
  unfold truthy; first | refine wpAny_bind (wpAny_callSpecial?_none (name := Str.ofString "__bool__") ty noBool_dict ?_) | refine wpAny_bind (wpAny_pure (wpAny_bind (wpAny_callSpecial?_none (name := Str.ofString "__bool__") ty noBool_dict ?_)))
  first | refine wpAny_bind (wpAny_specialOf (name := Str.ofString "__len__") ty PySem.F.slot_dict_len.lookup ?_) | refine wpAny_bind (wpAny_pure (wpAny_bind (wpAny_specialOf (name := Str.ofString "__len__") ty PySem.F.slot_dict_len.lookup ?_)))
  first | exact wpAny_bind (wpAny_mono key (fun r s' h' => by obtain ⟨rfl, hq⟩ := h'; exact wpAny_pure (ne ▸ hq)) fun _ _ e => e) | exact wpAny_bind (wpAny_pure (wpAny_bind (wpAny_mono key (fun r s' h' => by obtain ⟨rfl, hq⟩ := h'; exact wpAny_pure (ne ▸ hq)) fun _ _ e => e)))
end
/-! ### dicts by tuples, frozen: walked, asked, read -/
/-- what is read as u may be read as u in a greater heap -/
theorem rd_mono {H H' : Hp} {a : Addr} {u : HO} (s : Same H H') (r : Rd H a u) : Rd H' a u := r.imp (s _ _) fun ⟨o, e⟩ => ⟨o, s _ _ e⟩
theorem rd_frz {H : Hp} {a : Addr} {u : HO} {o : Obj} (e : H a = some (.frz o u)) : Rd H a u := .inr ⟨o, e⟩
theorem get_t {H : Hp} {a b : Addr} {kvs : List (List Key × V)} {k : List Key} (e : Rd H a (.dT kvs)) (eb : H b = some (.tup (k.map kV))) : DGet H a (.ref b) (valV kvs k) := .inr ⟨kvs, k, b, e, rfl, eb, rfl⟩
theorem isD_t {H : Hp} {a : Addr} {kvs : List (List Key × V)} (e : Rd H a (.dT kvs)) : IsD H a := .inr ⟨kvs, e⟩
section
variable {X : Cx}
theorem inv_frz {pins : List (Addr × Obj)} {σ : L2.St} {H : Hp} {s : Shared} {a : Addr} {kvs : List (List Key × V)} (I : Inv X pins σ H s) (e : H a = some (.dT kvs)) : ∃ o, Inv X pins σ (upd H a (.frz o (.dT kvs))) s := by
  obtain ⟨z, y, xs, r, o, es, ep, h1, h2⟩ := (show ObjOk X.prog X.w H s.heap a (.dT kvs) from I.hok a _ e)
  refine ⟨o, I.write (t' := s.toks) (x := a) (e := a) (by rw [e]; exact True.intro) (.inl rfl) (fun b u _ q => q) ⟨o, h1⟩ ⟨h1, z, y, xs, Paired.mapP r fun p q w => ⟨w.1, ?_, w.2.2⟩, o, es, ep, h1, h2⟩⟩
  rw [upd_ne (ne_of w.2.1 e (fun z => nomatch z))]
  exact w.2.1
/-- an expression whose dict is written no more from here on -/
def tFrz (t : TE) : TE := fun σ H Q => t σ H fun x H1 => ∃ a kvs, x = .ref a ∧ H1 a = some (.dT kvs) ∧ ∀ o, Q x (upd H1 a (.frz o (.dT kvs)))
theorem pe_frz {e : Expr} {t : TE} (h : PE X e t) : PE X e (tFrz t) := by
  intro pins s σ H Q I hw
  refine thn (h pins s σ H _ I hw) fun v s1 ⟨x, H1, I1, r1, a, kvs, ex, ea, q⟩ => ?_
  obtain ⟨o, I2⟩ := inv_frz I1 ea
  exact ⟨x, _, I2, r1, q o⟩
theorem raw_of {P : Program} {w : World} {H : Hp} {h : Heap} {a : Addr} {kvs : List (List Key × V)} (x : ObjOk P w H h a (.dT kvs)) : (a == sysModules) = false ∧ kvs.length ≤ sizeLine ∧ ∃ es ep, RawD h a es ep ∧ es.size = kvs.length ∧
    ∀ (i : Nat) (k : List Key) (v : V), kvs[i]? = some (k, v) → ∃ (e : DictEntry) (b : Addr), es[i]? = some e ∧ e.key = .ref b ∧ H b = some (.tup (k.map kV)) ∧ RelV v e.val := by
  obtain ⟨z, y, xs, r, o, es, ep, h1, h2, h3, h4, h5⟩ := x
  refine ⟨y, z, es, ep, ⟨o, h1, h2, h3⟩, ?_, fun i k v hi => ?_⟩
  · rw [← Array.length_toList, h4, List.length_map]
    exact (Paired.length r).symm
  · have all : ∀ {l : List (List Key × V)} {m : List (List Key × Addr × Value)}, Paired (fun (p : List Key × V) (q : List Key × Addr × Value) => p.1 = q.1 ∧ H q.2.1 = some (.tup (p.1.map kV)) ∧ RelV p.2 q.2.2) l m →
        ∀ (i : Nat) (k : List Key) (v : V), l[i]? = some (k, v) → ∃ (b : Addr) (u : Value), m[i]? = some (k, b, u) ∧ H b = some (.tup (k.map kV)) ∧ RelV v u := by
      intro l m q
      induction q with
      | nil => intro i k v hx; simp at hx
      | @cons p q ps qs hq t ih =>
        intro i k v hx
        cases i with
        | zero =>
          simp only [List.getElem?_cons_zero, Option.some.injEq] at hx
          obtain ⟨q1, q2, q3⟩ := q
          obtain ⟨z1, z2, z3⟩ := hq
          subst hx
          simp only at z1 z2 z3
          subst z1
          exact ⟨q2, q3, rfl, z2, z3⟩
        | succ j =>
          simp only [List.getElem?_cons_succ] at hx ⊢
          exact ih j k v hx
    obtain ⟨b, u, e1, e2, e3⟩ := all r i k v hi
    refine ⟨entryOfKey (tupleKind (mixKind P w)) (k, b, u), b, ?_, rfl, e2, e3⟩
    rw [← Array.getElem?_toList, h4, List.getElem?_map, e1]
    rfl
/-- the frozen dict at a, walked by its keys -/
def Itd (a : Addr) (o : Obj) (kvs : List (List Key × V)) : It :=
  ⟨fun i H => H a = some (.frz o (.dT kvs)) ∧ i < kvs.length, fun i H x H' => H' = H ∧ ∃ k v b, kvs[i]? = some (k, v) ∧ x = .ref b ∧ H b = some (.tup (k.map kV)), fun i H => H a = some (.frz o (.dT kvs)) ∧ kvs.length ≤ i⟩
theorem frz_raw {P : Program} {w : World} {H : Hp} {h : Heap} {a : Addr} {kvs : List (List Key × V)} {o : Obj} {es : Array DictEntry} {ep : Nat} (x : ObjOk P w H h a (.frz o (.dT kvs))) (hd : o.data = .dict es ep) : RawD h a es ep ∧ es.size = kvs.length ∧
    ∀ (i : Nat) (k : List Key) (v : V), kvs[i]? = some (k, v) → ∃ (e : DictEntry) (b : Addr), es[i]? = some e ∧ e.key = .ref b ∧ H b = some (.tup (k.map kV)) ∧ RelV v e.val := by
  obtain ⟨h1, x⟩ := x
  obtain ⟨_, _, es', ep', D, sz, all⟩ := raw_of x
  obtain ⟨ob, e1, e2, e3⟩ := id D
  rw [h1] at e1
  cases e1
  rw [hd] at e3
  injection e3 with e4 e5
  subst e4 e5
  exact ⟨D, sz, all⟩
theorem turn_dict {P : Program} {w : World} {K : PySem.W.Frag} {tg : Expr} (a it : Addr) (o : Obj) (kvs : List (List Key × V)) (es : Array DictEntry) (ep : Nat) (hd : o.data = .dict es ep) (hn : es.size = kvs.length) :
    Turn P w K tg (Itd a o kvs) [it] it (fun i h => h.IsKeyIter it a i es.size ep) where
  mem := by simp
  obj := fun i h st b hb => by
    have e : b = it := by simpa using hb
    subst e
    obtain ⟨o, e, c, d⟩ := st
    exact ⟨o, e, fun v z => by rw [d] at z; cases z⟩
  keep := fun i h h' st k => st.at fun o e => k it (by simp) o e
  item := by
    intro X hP hw hK hc i pins s σ H E I hf st hg
    subst hP hw hK
    obtain ⟨ha, hi⟩ := hg
    obtain ⟨D, sz, all⟩ := frz_raw (I.hok a _ ha) hd
    obtain ⟨k, v⟩ : List Key × V := kvs[i]
    obtain ⟨⟨k, v⟩, hkv⟩ : ∃ p, kvs[i]? = some p := ⟨kvs[i], by simp [hi]⟩
    obtain ⟨e, b, he, ek, eb, _⟩ := all i k v hkv
    obtain ⟨f0, f1, f2, f3, f4, f5⟩ := hf it (by simp)
    refine raw_item st D he fun h' st' sb => ?_
    have I1 : Inv X pins σ H { s with heap := h' } := I.turned (t' := s.toks) (fun b o hb e => (sb.2 b hb).trans e) f0 f1 f3 f4 f5
    obtain ⟨o2, e2, c2, d2⟩ := id st'
    rw [ek]
    exact ⟨.ref b, rfl, go_of (s := { s with heap := h' }) e2 c2 d2 (by decide) ⟨.ref b, H, I1, rfl, ⟨rfl, k, v, b, hkv, rfl, eb⟩, st', fun b hb => (hf b hb).1⟩⟩
  done := by
    intro X hP hw hK hc i pins s σ H E I hf st hg
    subst hP hw hK
    obtain ⟨ha, hi⟩ := hg
    obtain ⟨D, sz, all⟩ := frz_raw (I.hok a _ ha) hd
    obtain ⟨f0, f1, f2, f3, f4, f5⟩ := hf it (by simp)
    exact raw_end (I.ok.hd hc) st D (by (first | lia | omega)) fun h' eb => ⟨rfl, I.turned (t' := s.toks) (fun b o hb e => eb b o hb e) f0 f1 f3 f4 f5⟩
  self := fun _ _ _ _ _ st h => wpAny_pyIter_keyiter st h
def iDct (tl : TE) : TI := fun σ H R => tl σ H fun x H1 => ∃ a o kvs, x = .ref a ∧ H1 a = some (.frz o (.dT kvs)) ∧ R (Itd a o kvs) H1
theorem pi_dct {tg l : Expr} {tl : TE} (hl : PE X l tl) : PI X tg l (iDct tl) := by
  intro pins s σ H R I h
  refine thn (hl pins s σ H _ I h) fun v s1 ⟨x, H1, I1, r1, q1⟩ => ?_
  obtain ⟨a, o, kvs, e, ha, q⟩ := q1
  subst e
  cases r1
  obtain ⟨g1, x1⟩ := (show ObjOk X.prog X.w H1 s1.heap a (.frz o (.dT kvs)) from I1.hok a _ ha)
  obtain ⟨big, _, es, ep, D, sz, all⟩ := raw_of x1
  obtain ⟨ob, e1, e2, e3⟩ := id D
  rw [g1] at e1
  cases e1
  refine raw_iter big D ?_
  refine ⟨s1.heap.objs.size, [s1.heap.objs.size], _, _, H1, rfl, I1.kept (t' := s1.toks) fun b o e => Heap.get?_push_of_some _ e, turn_dict a _ o kvs es ep e3 sz, ⟨_, Heap.get?_push_size _ rfl, rfl, rfl⟩, fun b hb => ?_, q⟩
  have e : b = s1.heap.objs.size := by simpa using hb
  subst e
  exact I1.fpOk (Nat.le_refl _) (I1.hok.fresh (Nat.le_refl _))
/-! ### truth of lists and of dicts by tuples -/
def tTrL (K : PySem.W.Frag) (t : TE) : TT := fun σ H Q => t σ H fun x H1 => ∃ a xs, x = .ref a ∧ SqL K H1 a xs ∧ Q (!xs.isEmpty) H1
theorem pt_list {K : PySem.W.Frag} (hK : X.K = K) {e : Expr} {t : TE} (h : PE X e t) (he : ∀ whole, isTrue e X.env whole = (do let v ← whole; standAt e.pos; holding [v] (truthy v)) := by intro _; rfl) : PT X e (tTrL K t) := by
  subst hK
  intro pins s σ H Q I hw
  refine isTrue_plain (thn (h pins s σ H _ I hw) fun v s1 ⟨x, H1, I1, r1, q1⟩ => ?_) (he _)
  obtain ⟨a, xs, rfl, ha, q⟩ := q1
  cases r1
  obtain ⟨its, rv, p, hz⟩ := I1.list ha
  have el := rv.length
  rw [sizeLine_eq] at hz
  refine wpAny_truthy_list p.isList (by simp; (first | lia | omega)) ⟨H1, I1.tok _, ?_⟩
  have ee : its.toArray.isEmpty = xs.isEmpty := by
    cases rv with
    | nil => rfl
    | cons _ _ => rfl
  rw [ee]
  exact q
def tTrD (t : TE) : TT := fun σ H Q => t σ H fun x H1 => ∃ a kvs, x = .ref a ∧ Rd H1 a (.dT kvs) ∧ Q (decide (kvs.length ≠ 0)) H1
theorem pt_dct {e : Expr} {t : TE} (h : PE X e t) (he : ∀ whole, isTrue e X.env whole = (do let v ← whole; standAt e.pos; holding [v] (truthy v)) := by intro _; rfl) : PT X e (tTrD t) := by
  intro pins s σ H Q I hw
  refine isTrue_plain (thn (h pins s σ H _ I hw) fun v s1 ⟨x, H1, I1, r1, q1⟩ => ?_) (he _)
  obtain ⟨a, kvs, rfl, ha, q⟩ := q1
  cases r1
  obtain ⟨big, hz, es, ep, D, sz, all⟩ := raw_of (ha.ok I1.hok)
  rw [sizeLine_eq] at hz
  refine raw_truth big D (by (first | lia | omega)) ⟨H1, I1.tok _, ?_⟩
  rw [sz]
  exact q
end
/-! ### loops and comprehensions over a frozen dict -/
theorem for_dct {a : Addr} {o : Obj} {kvs : List (List Key × V)} {g : TG} {tb : TS} {D : Ends} {σ : L2.St} {H : Hp} (Pv : Nat → L2.St → Hp → Prop) (h0 : Pv 0 σ H) (hl : ∀ i σ H, i ≤ kvs.length → Pv i σ H → H a = some (.frz o (.dT kvs)))
    (hs : ∀ i k v b σ H, kvs[i]? = some (k, v) → H b = some (.tup (k.map kV)) → Pv i σ H → g (.ref b) σ H fun σ2 H2 => tb { D with nx := Pv (i + 1), ct := Pv (i + 1), bk := D.nx } σ2 H2) (hd : ∀ σ H, Pv kvs.length σ H → D.nx σ H) :
    ∃ W : Nat → Nat → L2.St → Hp → Prop, (∃ m, W 0 m σ H) ∧ ∀ i m σ H, W i m σ H →
      ((Itd a o kvs).stop i H ∧ D.nx σ H) ∨ ((Itd a o kvs).go i H ∧ ∃ N : L2.St → Hp → Prop, (∀ σ' H', N σ' H' → ∃ m', m' < m ∧ W (i + 1) m' σ' H') ∧ ∀ x H', (Itd a o kvs).yld i H x H' → g x σ H' fun σ2 H2 => tb { D with nx := N, ct := N, bk := D.nx } σ2 H2) := by
  refine ⟨fun i m σ H => m = kvs.length - i ∧ i ≤ kvs.length ∧ Pv i σ H, ⟨kvs.length, by simp, Nat.zero_le _, h0⟩, ?_⟩
  rintro i m σ H ⟨rfl, hi, p⟩
  have q := hl i σ H hi p
  by_cases hlt : i < kvs.length
  · refine .inr ⟨⟨q, hlt⟩, Pv (i + 1), fun σ' H' p' => ⟨kvs.length - (i + 1), by (first | lia | omega), rfl, hlt, p'⟩, fun x H' y => ?_⟩
    obtain ⟨e, k, v, b, e1, e2, e3⟩ := y
    subst e e2
    exact hs i k v b σ _ e1 e3 p
  · have e : i = kvs.length := by (first | lia | omega)
    subst e
    exact .inl ⟨⟨q, Nat.le_refl _⟩, hd σ H p⟩
end Fx

set_option Elab.async false
set_option linter.all false
set_option maxRecDepth 100000
namespace Fx
open PySem PySem.Spec PyProof.Rows L2
/-! ### what dicts by positions tell -/
theorem non_vd {G : Hp} {w : Bool × Nat} (h : At G .non (vD w)) : False := by
  obtain ⟨b, eb, _⟩ := At.vd h
  cases eb
theorem tells_is {G : Hp} {kvs : List (List Key × V)} {ps : List Plc} {k : Plc → Val} (h : Tells G kvs ps k) (p : Plc) : (valV kvs (posK p)).isSome = (k p).isSome := by
  have a := h.at_ p
  cases ek : k p with
  | none =>
    cases e : valV kvs (posK p) with
    | none => rfl
    | some u =>
      have hm := valV_in e
      rw [h.keys] at hm
      obtain ⟨q, hq, eq⟩ := List.mem_map.mp hm
      rw [posK_inj eq] at hq
      have := (h.has p).mp hq
      rw [ek] at this
      cases this
  | some w =>
    rw [ek] at a
    cases e : valV kvs (posK p) with
    | none => rw [e] at a; exact (non_vd a).elim
    | some u => rfl
theorem tells_at {G : Hp} {kvs : List (List Key × V)} {ps : List Plc} {k : Plc → Val} (h : Tells G kvs ps k) {p : Plc} {w : Bool × Nat} (hk : k p = some w) : ∃ a, valV kvs (posK p) = some (.ref a) ∧ G a = some (.tup [.str (sd w.1), .int (w.2 : Int)]) := by
  have a := h.at_ p
  rw [hk] at a
  cases e : valV kvs (posK p) with
  | none => rw [e] at a; exact (non_vd a).elim
  | some u =>
    rw [e] at a
    obtain ⟨b, rfl, hb⟩ := At.vd (show At G u (vD w) from a)
    exact ⟨b, rfl, hb⟩
theorem tellsD_key {G : Hp} {kvs : List (List Key × V)} {ps : List Plc} {d : Plc → PyData} (h : TellsD G kvs ps d) {i : Nat} {k : List Key} {v : V} (hi : kvs[i]? = some (k, v)) : ∃ p, ps[i]? = some p ∧ k = posK p := by
  have e : (kvs.map (·.1))[i]? = some k := by rw [List.getElem?_map, hi]; rfl
  rw [h.keys, List.getElem?_map] at e
  cases ep : ps[i]? with
  | none => rw [ep] at e; cases e
  | some p =>
    rw [ep] at e
    exact ⟨p, rfl, (Option.some.inj e).symm⟩
theorem filter_take {α : Type} {l : List α} {f : α → Bool} {i : Nat} {x : α} (h : l[i]? = some x) : (l.take (i + 1)).filter f = (l.take i).filter f ++ (if f x = true then [x] else []) := by
  rw [List.take_add_one, h, List.filter_append]
  congr 1
  show ([x].filter f) = _
  rw [List.filter_cons, List.filter_nil]
theorem tells_nil {G : Hp} : Tells G [] [] (fun _ => none) := ⟨rfl, List.nodup_nil, fun p => by simp, fun p => by simp [valV_nil]; rfl⟩
theorem tellsD_nil {G : Hp} {d : Plc → PyData} : TellsD G [] [] d := ⟨rfl, List.nodup_nil, fun p hp => nomatch hp⟩
theorem few98 {B : Brd} (g : Good B) : (allPos B.n).length ≤ 98 := by
  rw [allPos_len]
  have h7 := g.few
  have : 2 * B.n * B.n ≤ 2 * 7 * 7 := Nat.mul_le_mul (Nat.mul_le_mul_left _ h7) h7
  (first | lia | omega)
theorem tellsD_few {G : Hp} {B : Brd} {kvs : List (List Key × V)} {ps : List Plc} {d : Plc → PyData} (h : TellsD G kvs ps d) (g : Good B) (hk : ∀ p ∈ ps, p ∈ allPos B.n) : kvs.length < sizeLine := by
  rw [h.len]
  have := few_pos g h.nd hk
  exact small1000 (by (first | lia | omega))
/-! ### verdicts or None, as data -/
def dV : Val → PyData
  | some w => vD w
  | none => .none
theorem val_dV {G : Hp} {v : V} {x : Val} (h : ValAt G v x) : At G v (dV x) := by
  cases x with
  | none =>
    rw [show v = .non from h]
    exact .non
  | some w => exact h
theorem eqv_dV (a b : Val) : PyData.eqv (dV a) (dV b) = decide (a = b) := by
  cases a with
  | none => cases b <;> simp [dV, vD, PyData.eqv]
  | some u =>
    cases b with
    | none => simp [dV, vD, PyData.eqv]
    | some w =>
      obtain ⟨s, n⟩ := u
      obtain ⟨t, m⟩ := w
      simp only [dV, vD, PyData.eqv, PyData.eqvAll, Bool.and_true]
      by_cases h1 : s = t
      · by_cases h2 : n = m
        · subst h1 h2; simp
        · have : ¬ ((n : Int) = (m : Int)) := by (first | lia | omega)
          simp [h1, h2, this]
      · have : (sd s == sd t) = false := by simpa using fun z => h1 (sd_inj z)
        simp [h1, this]
theorem dV_depth (x : Val) : (dV x).depth ≤ 60 := by cases x <;> simp [dV, vD, PyData.depth, PyData.depthAll]
/-- who, in how many moves, by which move -/
def vdD (B : Brd) (p : Plc) : PyData := .tuple [.str (whoS (verd B p)), cntD (verd B p), mvD (moveB B p)]
theorem vdD_of {B : Brd} {G : Hp} {x : V} {p : Plc} (h : At G x (vdD B p)) : ∃ a, x = .ref a ∧ G a = some (.tup [.str (whoS (verd B p)), cntV (verd B p), mvV (moveB B p)]) := by
  cases h with
  | tup e t =>
    cases t with
    | cons b t =>
      cases t with
      | cons c t =>
        cases t with
        | cons d t =>
          cases t
          cases b
          have := cnt_of c
          subst this
          have := mv_of d
          subst this
          exact ⟨_, rfl, e⟩
theorem vdD_at {B : Brd} {G : Hp} {a : Addr} {p : Plc} (h : G a = some (.tup [.str (whoS (verd B p)), cntV (verd B p), mvV (moveB B p)])) : At G (.ref a) (vdD B p) := .tup h (.cons (.str (who_can _)) (.cons (cnt_at _) (.cons (mv_at _) .nil)))
/-- the side that a round finds -/
def sdN (B : Brd) (r : Nat) (p : Plc) : Bool := ((Kn (gameOf B) (r + 1) p).map (·.1)).getD true
def behD (B : Brd) (p : Plc) : PyData := .list ((behS B p).map posD)
def newD (B : Brd) (r : Nat) (p : Plc) : PyData := .str (sd (sdN B r p))
theorem ways_61 {B : Brd} (g : Good B) (p : Plc) : (waysB B p).length ≤ 61 := Nat.le_trans (waysL_len _ _) g.len
theorem sides_take {k : Plc → Val} {qs : List Plc} {i : Nat} {q : Plc} (h : qs[i]? = some q) : sidesOf k (qs.take (i + 1)) = sidesOf k (qs.take i) ++ ((k q).map (·.1)).toList := by
  unfold sidesOf
  rw [List.take_add_one, h]
  show (qs.take i ++ [q]).filterMap _ = _
  rw [List.filterMap_append]
  congr 1
theorem mem_sd {l : List Bool} {t : Bool} : sd t ∈ l.map sd ↔ t ∈ l := by
  rw [List.mem_map]
  constructor
  · rintro ⟨s, hs, e⟩
    rw [← sd_inj e]
    exact hs
  · intro h
    exact ⟨t, h, rfl⟩
/-- the least of the fitting ways stands first -/
theorem move_head {B : Brd} (g : Good B) {p : Plc} (hp : p ∈ allPos B.n) (hw : winAt B p = none) : ∃ y r, (waysS B p).filter (fun y => decide (kF B (nxt p y) = prevV (verd B p))) = y :: r ∧ moveB B p = some y := by
  obtain ⟨m, em, hm, ev, hle⟩ := move_some g hp hw
  have kin : ∀ y ∈ waysB B p, kF B (nxt p y) = verd B (nxt p y) := fun y hy => kF_in ((closed g).stays p hp _ (List.mem_map.mpr ⟨y, hy, rfl⟩))
  cases e : (waysS B p).filter (fun y => decide (kF B (nxt p y) = prevV (verd B p))) with
  | nil =>
    have : m ∈ (waysS B p).filter (fun y => decide (kF B (nxt p y) = prevV (verd B p))) := List.mem_filter.mpr ⟨srt_mem.mpr hm, decide_eq_true (by rw [kin m hm]; exact ev)⟩
    rw [e] at this
    cases this
  | cons y r =>
    obtain ⟨h1, h2, h3⟩ := srt_head e
    have h2 := of_decide_eq_true h2
    rw [kin y h1] at h2
    have a := hle y (mem_fit.mpr ⟨h1, h2⟩)
    have b := h3 m hm (decide_eq_true (by rw [kin m hm]; exact ev))
    have : m = y := by (first | lia | omega)
    subst this
    exact ⟨m, r, rfl, em⟩
theorem win_of_verd {B : Brd} {p : Plc} {s : Bool} {n : Nat} (h : verd B p = some (s, n)) : (winAt B p = none ↔ n ≠ 0) := by
  constructor
  · intro hw
    have := verd_pos hw h
    (first | lia | omega)
  · intro hn
    cases e : winAt B p with
    | none => rfl
    | some t =>
      rw [verd_win e] at h
      cases h
      exact absurd rfl hn
theorem win_of_open {B : Brd} {p : Plc} (h : verd B p = none) : winAt B p = none := by
  cases e : winAt B p with
  | none => rfl
  | some t =>
    rw [verd_win e] at h
    cases h
end Fx

set_option Elab.async false
set_option linter.all false
set_option maxRecDepth 100000
namespace Fx
open PySem PySem.Spec PyProof.Rows L2
theorem mod_nat {z : Int} {n : Nat} (h : 0 < n) : ∃ k : Nat, k < n ∧ z % (n : Int) = (k : Int) := by
  have h1 := Int.emod_nonneg z (show (n : Int) ≠ 0 by (first | lia | omega))
  have h2 := Int.emod_lt_of_pos z (show (0 : Int) < (n : Int) by (first | lia | omega))
  exact ⟨(z % (n : Int)).toNat, by (first | lia | omega), by (first | lia | omega)⟩
/-- one of a list of data, by a number that is cut to its length -/
theorem pick_at {G : Hp} {xs : List V} {α : Type} {ps : List α} {d : α → PyData} (a : AtAll G xs (ps.map d)) {k : Nat} (hk : k < ps.length) : ∃ x p, xs[k]? = some x ∧ ps[k]? = some p ∧ At G x (d p) := by
  have el : xs.length = ps.length := by rw [a.length, List.length_map]
  have hx : xs[k]? = some xs[k] := List.getElem?_eq_getElem (by (first | lia | omega))
  obtain ⟨e, he, ae⟩ := a.get' hx
  have hp : ps[k]? = some ps[k] := List.getElem?_eq_getElem hk
  rw [List.getElem?_map, hp] at he
  have he : d ps[k] = e := Option.some.inj he
  subst he
  exact ⟨_, _, hx, hp, ae⟩
theorem nil_depth : (PyData.list ([] : List PyData)).depth = 1 := by simp [PyData.depth, PyData.depthAll]
theorem eqv_nil (l : List PyData) : PyData.eqv (.list l) (.list []) = decide (l = []) := by cases l <;> simp [PyData.eqv, PyData.eqvAll]
end Fx

set_option Elab.async false
set_option linter.all false
set_option maxRecDepth 100000
namespace Fx
open PySem PySem.Spec PyProof.Rows L2
/-! ### exceptions that fly over frames -/
structure Fly (P : Program) (w : World) (outer : List Env) (H : Hp) (s : Shared) (ea : Addr) (cls : Value) (H' : Hp) (s' : Shared) : Prop where
  os : s'.os = s.os
  bare : AllBare s'.gens
  un : Un (frs outer) [] H H' s.heap s'.heap
  hok : HOk P w H' s'.heap
  ex : ∃ (B : Heap) (a0 : Value), Heap.FlyingW B outer ea cls a0 s'.heap ∧ (∀ b u, H' b = some u → ∃ o, B.get? b = some o) ∧ (∀ b o, s.heap.get? b = some o → H b = none → b ∉ frs outer → B.get? b = some o) ∧ ∀ b o, s.heap.get? b = some o → b ∉ frs outer → ∃ o', B.get? b = some o'
def CX1 (P : Program) (w : World) : CXT := fun outer H s E e s' => ∃ ea cls H', e = .ref ea ∧ Fly P w outer H s ea cls H' s' ∧ E cls none H'
theorem obj_there {P : Program} {w : World} {H : Hp} {h : Heap} {a : Addr} {o : HO} (x : ObjOk P w H h a o) : ∃ ob, h.get? a = some ob := by
  cases o with
  | lst xs => obtain ⟨_, _, _, _, e⟩ := x; exact ⟨_, e⟩
  | tup xs => obtain ⟨_, _, _, ob, e, _⟩ := x; exact ⟨ob, e⟩
  | dK kvs => obtain ⟨_, _, _, _, o, _, _, e, _⟩ := x; exact ⟨o, e⟩
  | dT kvs => obtain ⟨_, _, _, _, o, _, _, e, _⟩ := x; exact ⟨o, e⟩
  | set S n => obtain ⟨o, _, _, _, e, _⟩ := x; exact ⟨o, e⟩
  | ins C dx fs => obtain ⟨_, _, _, e, _⟩ := x; exact ⟨_, e⟩
  | own y => exact x
  | xd fs => obtain ⟨_, ⟨o, _, _, e, _⟩, _⟩ := x; exact ⟨o, e⟩
  | rng lo hi => obtain ⟨_, _, _, e⟩ := x; exact ⟨_, e⟩
  | frz ob u => exact ⟨ob, x.1⟩
  | tbl ps => exact ⟨_, x⟩
  | met f y => exact ⟨_, x⟩
  | ext φ => exact x.2.1
theorem hok_fly {P : Program} {w : World} {H : Hp} {B h h' : Heap} (x : HOk P w H h) (t : ∀ b u, H b = some u → ∃ o, B.get? b = some o) (k1 : B.StaysIn h) (k2 : B.StaysIn h') : HOk P w H h' := fun a o e =>
  (x a o e).stay (fun b u hb q => by
    have tr : ∃ v, H b = some v := by
      rcases hb with z | z
      · rw [z]; exact ⟨o, e⟩
      · exact ⟨_, z⟩
    obtain ⟨v, hv⟩ := tr
    obtain ⟨o', ho'⟩ := t b v hv
    have := k1 b o' ho'
    rw [q] at this
    cases this
    exact k2 b u ho') (fun _ q => q) fun _ _ q => q
section
variable {X : Cx} {pins : List (Addr × Obj)} {σ : L2.St} {H H' : Hp} {s : Shared} {h2 : Heap}
/-- what was there at the entry, seen from behind an exception -/
theorem un_entry (I : L2.Inv X pins σ H s) (hex : X.ex = []) (keep : ∀ b o, s.heap.get? b = some o → H b = none → b ∉ frs X.stack → h2.get? b = some o) (slot : ∀ b o, s.heap.get? b = some o → H b = none → b ∈ frs X.stack → ∃ sl, h2.get? b = some { o with slots := sl })
    (free : ∀ b o, s.heap.get? b = some o → H b = none → H' b = none) (there : ∀ b o, s.heap.get? b = some o → ∃ o', h2.get? b = some o')
    (tups : ∀ b xs, H b = some (.tup xs) → H' b = some (.tup xs)) (frzs : ∀ b o u, H b = some (.frz o u) → H' b = some (.frz o u)) (tbls : ∀ b ps, H b = some (.tbl ps) → ∃ more, H' b = some (.tbl (ps ++ more))) :
    Un X.fs [] X.H₀ H' X.s₀.heap h2 := by
  have nex : ∀ b : Addr, b ∉ X.ex := fun b z => by rw [hex] at z; cases z
  have nst : ∀ b o, X.s₀.heap.get? b = some o → b ∉ X.fs → b ∉ frs X.stack := fun b o e hb hm => by
    rcases List.mem_cons.mp (I.stkSub b hm) with z | z
    · rw [z] at e
      exact absurd (Nat.lt_of_lt_of_le (Heap.lt_size e) I.ok.above) (Nat.lt_irrefl _)
    · exact hb z
  refine ⟨fun b o e n hb hx => ?_, fun b o e n hb hx => ?_, fun b o e n hx => ?_, fun b o e hx => ?_, fun b xs e => tups b xs (I.base.tups b xs e), fun b o u e => frzs b o u (I.base.frzs b o u e), fun b ps e => ?_⟩
  · exact keep b o (I.base.keep b o e n hb (nex b)) (I.base.free b o e n (nex b)) (nst b o e hb)
  · obtain ⟨sl, e1⟩ := I.base.slot b o e n hb (nex b)
    have n1 := I.base.free b o e n (nex b)
    by_cases hm : b ∈ frs X.stack
    · obtain ⟨sl', e2⟩ := slot b _ e1 n1 hm
      exact ⟨sl', e2⟩
    · exact ⟨sl, keep b _ e1 n1 hm⟩
  · obtain ⟨o', e1⟩ := I.base.there b o e (nex b)
    exact free b o' e1 (I.base.free b o e n (nex b))
  · obtain ⟨o', e1⟩ := I.base.there b o e (nex b)
    exact there b o' e1
  · obtain ⟨m1, e1⟩ := I.base.tbls b ps e
    obtain ⟨m2, e2⟩ := tbls b _ e1
    exact ⟨m1 ++ m2, by rw [e2, Array.append_assoc]⟩
theorem all_in (I : L2.Inv X pins σ H s) (hex : X.ex = []) {B : Heap} (h : ∀ b o, s.heap.get? b = some o → b ∉ frs X.stack → ∃ o', B.get? b = some o') : ∀ b o, X.s₀.heap.get? b = some o → b ∉ X.fs → ∃ o', B.get? b = some o' := fun b o e hb => by
  have nex : b ∉ X.ex := fun z => by rw [hex] at z; cases z
  obtain ⟨o', e'⟩ := I.base.there b o e nex
  refine h b o' e' fun hm => ?_
  rcases List.mem_cons.mp (I.stkSub b hm) with z | z
  · rw [z] at e
    exact absurd (Nat.lt_of_lt_of_le (Heap.lt_size e) I.ok.above) (Nat.lt_irrefl _)
  · exact hb z
theorem old_in (I : L2.Inv X pins σ H s) (hex : X.ex = []) {B : Heap} (h : ∀ b o, s.heap.get? b = some o → H b = none → b ∉ frs X.stack → B.get? b = some o) : ∀ b o, X.s₀.heap.get? b = some o → X.H₀ b = none → b ∉ X.fs → B.get? b = some o := fun b o e n hb => by
  have nex : b ∉ X.ex := fun z => by rw [hex] at z; cases z
  refine h b o (I.base.keep b o e n hb nex) (I.base.free b o e n nex) fun hm => ?_
  rcases List.mem_cons.mp (I.stkSub b hm) with z | z
  · rw [z] at e
    exact absurd (Nat.lt_of_lt_of_le (Heap.lt_size e) I.ok.above) (Nat.lt_irrefl _)
  · exact hb z
end
section
variable {P : Program} {w : World} {K : PySem.W.Frag} {mg : Str → Option Value} {base : Heap} {N : List Str} {qual : Str} {scope : Scope} {f : Addr} {cd : Value} {A : Around} {outer : List Env} {s₀ : Shared} {H₀ : Hp} {E : XK}
/-- a def's body whose exceptions may leave -/
abbrev cx1 (P : Program) (w : World) (K : PySem.W.Frag) (mg : Str → Option Value) (base : Heap) (N : List Str) (qual : Str) (scope : Scope) (f : Addr) (cd : Value) (A : Around) (outer : List Env) (s₀ : Shared) (H₀ : Hp) (E : XK) : Cx := cxOf (CX1 P w) P w K mg base N qual scope f cd A outer s₀ H₀ E
/-- an exception just made leaves its frame -/
theorem leaves_made {pins : List (Addr × Obj)} {σ : L2.St} {H : Hp} {s : Shared} {h1 : Heap} {e : Addr} {cls : Value} {args : List Value} (I : L2.Inv (cx1 P w K mg base N qual scope f cd A outer s₀ H₀ E) pins σ H s) (hx : Heap.MadeExcOf s.heap h1 e cls args) (q : E cls none H) :
    (cx1 P w K mg base N qual scope f cd A outer s₀ H₀ E).xe (.ref e) { s with heap := h1 } := by
  have hin : ∀ env ∈ (cx1 P w K mg base N qual scope f cd A outer s₀ H₀ E).stack, ∀ a, env.frame = some a → a ∈ frs (cx1 P w K mg base N qual scope f cd A outer s₀ H₀ E).stack := fun env he a ha => List.mem_filterMap.mpr ⟨env, he, ha⟩
  refine wpAny_leaves_madeW (base := PySem.W.hideAll s.heap (frs (cx1 P w K mg base N qual scope f cd A outer s₀ H₀ E).stack)) (h := s.heap) I.ok.frames rfl (fun b o z => PySem.W.of_hideAll _ z) (PySem.W.funFrames_hide I.stack hin) hx fun h2 t x1 x2 x3 x4 => ?_
  have keep : ∀ b o, s.heap.get? b = some o → b ∉ frs (cx1 P w K mg base N qual scope f cd A outer s₀ H₀ E).stack → h2.get? b = some o := fun b o z hb => x1.1 b o (PySem.W.hideAll_get _ z hb)
  have slot : ∀ b o, s.heap.get? b = some o → b ∈ frs (cx1 P w K mg base N qual scope f cd A outer s₀ H₀ E).stack → ∃ sl, h2.get? b = some { o with slots := sl } := fun b o z hb => by
    obtain ⟨_, o', ho', hd⟩ := I.stack.mem hb
    rw [z] at ho'
    cases ho'
    exact x4 b o (hx.keeps b o z) hd
  have tr : ∀ b u, H b = some u → b ∉ frs (cx1 P w K mg base N qual scope f cd A outer s₀ H₀ E).stack := fun b u z hb => by
    rw [I.stkFree b hb] at z
    cases z
  refine ⟨e, cls, H, rfl, ⟨I.os, I.bare, un_entry I rfl (fun b o z _ hb => keep b o z hb) (fun b o z _ hb => slot b o z hb) (fun _ _ _ n => n) (fun b o z => ?_) (fun _ _ z => z) (fun _ _ _ z => z) (fun b ps z => ⟨#[], by rw [z]; simp⟩), ?_, _, _, x1, fun b u z => ?_, old_in I rfl (fun b o z _ hb => PySem.W.hideAll_get _ z hb), all_in I rfl fun b o z hb => ⟨o, PySem.W.hideAll_get _ z hb⟩⟩, q⟩
  · by_cases hb : b ∈ frs (cx1 P w K mg base N qual scope f cd A outer s₀ H₀ E).stack
    · obtain ⟨sl, z2⟩ := slot b o z hb
      exact ⟨_, z2⟩
    · exact ⟨o, keep b o z hb⟩
  · refine hok_fly (B := PySem.W.hideAll s.heap (frs (cx1 P w K mg base N qual scope f cd A outer s₀ H₀ E).stack)) I.hok (fun b u z => ?_) (fun b o z => PySem.W.of_hideAll _ z) x1.1
    obtain ⟨o, ho⟩ := obj_there (I.hok b u z)
    exact ⟨o, PySem.W.hideAll_get _ ho (tr b u z)⟩
  · obtain ⟨o, ho⟩ := obj_there (I.hok b u z)
    exact ⟨o, PySem.W.hideAll_get _ ho (tr b u z)⟩
/-- a callee's exception passes through -/
theorem pass1 : Passes (CX1 P w) (cx1 P w K mg base N qual scope f cd A outer s₀ H₀ E) E := by
  rintro pins σ H s e s' I ⟨ea, cls, H', rfl, F, q⟩
  obtain ⟨B, a0, fl, tr, old, all⟩ := F.ex
  refine wpAny_leaves_onW I.ok.frames rfl fl fun h2 x1 x2 => ?_
  have keep : ∀ b o, s.heap.get? b = some o → H b = none → b ∉ frs (cx1 P w K mg base N qual scope f cd A outer s₀ H₀ E).stack → h2.get? b = some o := fun b o z n hb => x1.1 b o (old b o z n hb)
  have slot : ∀ b o, s.heap.get? b = some o → H b = none → b ∈ frs (cx1 P w K mg base N qual scope f cd A outer s₀ H₀ E).stack → ∃ sl, h2.get? b = some { o with slots := sl } := fun b o z n hb => by
    obtain ⟨sl, z1⟩ := F.un.slot b o z n hb (by simp)
    obtain ⟨_, o', ho', hd⟩ := I.stack.mem hb
    rw [z] at ho'
    cases ho'
    obtain ⟨sl', z2⟩ := x2 b _ z1 hd
    exact ⟨sl', z2⟩
  refine ⟨ea, cls, H', rfl, ⟨F.os.trans I.os, F.bare, un_entry I rfl keep slot (fun b o z n => F.un.free b o z n (by simp)) (fun b o z => ?_) F.un.tups F.un.frzs F.un.tbls, hok_fly F.hok tr fl.1 x1.1, B, a0, x1, tr, old_in I rfl old, all_in I rfl all⟩, q⟩
  by_cases hb : b ∈ frs (cx1 P w K mg base N qual scope f cd A outer s₀ H₀ E).stack
  · obtain ⟨sl, z2⟩ := slot b o z (I.stkFree b hb) hb
    exact ⟨_, z2⟩
  · obtain ⟨o', z2⟩ := all b o z hb
    exact ⟨o', x1.1 b o' z2⟩
end
/-! ### classes of one's own, under ValueError -/
abbrev bmV : List Value := [.type "ValueError", .type "Exception", .type "BaseException", .type "object"]
theorem cls_of {K : PySem.W.Frag} {h : Heap} {mg : Str → Option Value} {x : Str} {C : Addr} (X : K.In h) (hm : mg x = some (.ref C)) (hq : PySem.W.excIn K C bmV "ValueError.__new__" = true) : OwnCls x C bmV "ValueError.__new__" mg h := by
  refine ⟨hm, ?_⟩
  unfold PySem.W.excIn at hq
  split at hq
  · rename_i d1 c1 s1 hl
    split at hq
    · rename_i C2 m2 a0 a1 a2 a3 nn a5 e1 e2
      simp only [Bool.not_eq_true', Bool.and_eq_true, beq_iff_eq] at hq
      obtain ⟨⟨⟨⟨⟨h1, h2⟩, h3⟩, h4⟩, h5⟩, h6⟩ := hq
      subst h1 h2
      obtain ⟨b1, b2, b3, b4, b5, b6, b7, b8, b9, b10, b11⟩ := c1
      simp only at e1 h3 h5 h6
      subst e1 h3
      have e3 : s1 = #[a0, a1, a2, a3, some (.builtin "ValueError.__new__"), a5] := by
        obtain ⟨l⟩ := s1
        exact congrArg Array.mk e2
      subst e3
      exact ⟨m2, b4, b1, b5, b2, b6, b7, b8, b9, b10, d1, a0, a1, a2, a3, a5, _, X _ _ hl, .of_isNs (PySem.W.isNs_of_in X h5), PySem.W.nsMap_none_of_in X h5 h6, PySem.W.tail_of_in X h4⟩
    · cases hq
  · cases hq
section
variable {P : Program} {w : World} {K : PySem.W.Frag} {mg : Str → Option Value} {base : Heap} {N : List Str} {qual : Str} {scope : Scope} {f : Addr} {cd : Value} {A : Around} {outer : List Env} {s₀ : Shared} {H₀ : Hp} {E : XK}
def tRaise (E : XK) (C : Addr) : TS := fun _ _ H => E (.ref C) none H
theorem ps_raise {x : Str} {C : Addr} {t : Str} {j : Nat} {np cp p1 pos : Pos} (hg : Gl (cx1 P w K mg base N qual scope f cd A outer s₀ H₀ E) x) (hm : mg x = some (.ref C)) (hq : PySem.W.excIn K C bmV "ValueError.__new__" = true) (hd : (x == ("__debug__" : Str)) = false := by decide) :
    PS (cx1 P w K mg base N qual scope f cd A outer s₀ H₀ E) (.Raise (some (.Call (.Name x np) [.Constant (.str t) j p1] [] cp)) none pos) (tRaise E C) := by
  intro pins s σ H D I h
  obtain ⟨tl, n, nm, q, bs, hdct, sn, sub, ab, col, dd, k0, k1, k2, k3, k5, mN, hC, hN, hni, T⟩ := (cls_of I.kIn hm hq).obj
  refine wpAny_Raise_call_subU (C := C) (nm := nm) (q := q) (N := n) (bs := bs) (bm := tl) (hdct := hdct) (sn := sn) (sub := sub) (ab := ab) (col := col) (dd := dd) (k0 := k0) (k1 := k1) (k2 := k2) (k3 := k3) (k5 := k5)
    PySem.F.excBase_ValueError (by decide) PySem.F.excBase_ValueError (mN := mN) (T.hasType PySem.F.excBase_ValueError.hasBase) (I.ok.hd rfl) rfl hni (ld_glob I hg hm ⟨rfl, ?_⟩ hd)
  refine Calls.evalArgs_plain (Calls.spliced_cons (Calls.Constant_str (k := j) (pos := p1) (Calls.spliced_nil ⟨rfl, by show 1 ≤ sizeLine; decide, hC, hN, T, fun h' e hx => ?_⟩)))
  exact leaves_made (I.tok _) hx h
/-- a def whose exceptions may leave it -/
theorem fun_okX {x : Str} {st : Stmt} {f : Addr} {fd : FuncData} {N ps : List Str} {k : Nat} {sp : Sp} (F : Fun K x qual st f fd) (S : FnScope N ps (defScope st)) (len : ∀ vs H Q E, sp vs H Q E → vs.length = ps.length)
    (hbody : ∀ (cdv : Value) (A : Around) (outer : List Env) (s : Shared) (H : Hp) (vs : List V) (Q : VK) (E : XK), Room k (A.deeper (envOfC qual (defScope st) s.heap.objs.size f cdv)) → sp vs H Q E →
      ∃ t, PSs (cx1 P w K mg base N qual (defScope st) f cdv A outer s H E) (defBody st) t ∧ t { nx := fun _ H' => Q .non H', rt := Q } (start N vs) H) : FnOk P w K mg base (CX1 P w) (k + 1) f fd ps sp := by
  obtain ⟨oc, od, kV, doc, pm, an, cdv, ct, osl, rfl, lk, hcd⟩ := F.ex
  exact fn_of lk hcd S len fun A outer s H vs Q E hr hsp => hbody cdv A outer s H vs Q E hr hsp
theorem own1 : PassesOwn (model P w) (cx1 P w K mg base N qual scope f cd A outer s₀ H₀ E).A (cx1 P w K mg base N qual scope f cd A outer s₀ H₀ E).env (cx1 P w K mg base N qual scope f cd A outer s₀ H₀ E).xe := PassesOwn.leaving
end
end Fx

set_option Elab.async false
set_option linter.all false
set_option maxRecDepth 100000
namespace Fx
open PySem PySem.Spec PyProof.Rows L2
/-! ### a try: what the body raises is caught -/
/-- the same body with other pins and another wish -/
abbrev reX (X : Cx) (pn : List (Addr × Obj)) (xe : Value → Shared → Prop) : Cx := { X with pn := pn, xe := xe }
/-- within an except suite -/
abbrev mkX (X : Cx) (e : Value) : Cx := { X with A := X.A.mark (some e), calm := false, xe := fun _ _ => False }
section
variable {X : Cx} {pins : List (Addr × Obj)} {σ : L2.St} {H : Hp} {s : Shared}
theorem ok_re {pn : List (Addr × Obj)} {xe : Value → Shared → Prop} (ok : X.Ok) : (reX X pn xe).Ok :=
  ⟨ok.mod, ok.kind, ok.glob, ok.blt, ok.above, ok.inj, ok.has, ok.cab, ok.hd, ok.frames, ok.stk, ok.exf, ok.bs, ok.bsz, ok.noex, ok.exfs, ok.funs, ok.frf⟩
theorem ok_back {pn : List (Addr × Obj)} {xe : Value → Shared → Prop} (ok : (reX X pn xe).Ok) : X.Ok :=
  ⟨ok.mod, ok.kind, ok.glob, ok.blt, ok.above, ok.inj, ok.has, ok.cab, ok.hd, ok.frames, ok.stk, ok.exf, ok.bs, ok.bsz, ok.noex, ok.exfs, ok.funs, ok.frf⟩
theorem inv_re {xe : Value → Shared → Prop} (I : L2.Inv X pins σ H s) : L2.Inv (reX X (X.pn ++ pins) xe) [] σ H s :=
  ⟨ok_re I.ok, I.os, I.bare, I.base, I.loc, I.cell, I.free, I.freeC, fun p hp => I.pin p (by rw [List.append_nil] at hp; exact hp), I.hok, I.len⟩
theorem inv_back {pins' : List (Addr × Obj)} {xe : Value → Shared → Prop} (I : L2.Inv (reX X (X.pn ++ pins) xe) pins' σ H s) : L2.Inv X pins σ H s :=
  ⟨ok_back I.ok, I.os, I.bare, I.base, I.loc, I.cell, I.free, I.freeC, fun p hp => I.pin p (List.mem_append_left _ hp), I.hok, I.len⟩
theorem sp_back {pins' : List (Addr × Obj)} {xe : Value → Shared → Prop} {D : Ends} {f : Flow} {s' : Shared} (h : SP (reX X (X.pn ++ pins) xe) pins' D f s') : SP X pins D f s' := by
  cases f with
  | next => obtain ⟨σ', H', I, q⟩ := h; exact ⟨σ', H', inv_back I, q⟩
  | brk => obtain ⟨σ', H', I, q⟩ := h; exact ⟨σ', H', inv_back I, q⟩
  | cont => obtain ⟨σ', H', I, q⟩ := h; exact ⟨σ', H', inv_back I, q⟩
  | ret u => obtain ⟨v, σ', H', I, r, q⟩ := h; exact ⟨v, σ', H', inv_back I, r, q⟩
theorem inv_mk {e : Value} (I : L2.Inv X pins σ H s) : L2.Inv (mkX X e) pins σ H s :=
  ⟨⟨I.ok.mod, I.ok.kind, I.ok.glob, I.ok.blt, I.ok.above, I.ok.inj, I.ok.has, I.ok.cab, (fun z => nomatch z), I.ok.frames, I.ok.stk, I.ok.exf, I.ok.bs, I.ok.bsz, I.ok.noex, I.ok.exfs, I.ok.funs, I.ok.frf⟩, I.os, I.bare, I.base, I.loc, I.cell, I.free, I.freeC, I.pin, I.hok, I.len⟩
theorem inv_mkB {e : Value} (hc : X.A.handled = none) (I : L2.Inv (mkX X e) pins σ H s) : L2.Inv X pins σ H s :=
  ⟨⟨I.ok.mod, I.ok.kind, I.ok.glob, I.ok.blt, I.ok.above, I.ok.inj, I.ok.has, I.ok.cab, (fun _ => hc), I.ok.frames, I.ok.stk, I.ok.exf, I.ok.bs, I.ok.bsz, I.ok.noex, I.ok.exfs, I.ok.funs, I.ok.frf⟩, I.os, I.bare, I.base, I.loc, I.cell, I.free, I.freeC, I.pin, I.hok, I.len⟩
theorem sp_mkB {e : Value} (hc : X.A.handled = none) {D : Ends} {f : Flow} {s' : Shared} (h : SP (mkX X e) pins D f s') : SP X pins D f s' := by
  cases f with
  | next => obtain ⟨σ', H', I, q⟩ := h; exact ⟨σ', H', inv_mkB hc I, q⟩
  | brk => obtain ⟨σ', H', I, q⟩ := h; exact ⟨σ', H', inv_mkB hc I, q⟩
  | cont => obtain ⟨σ', H', I, q⟩ := h; exact ⟨σ', H', inv_mkB hc I, q⟩
  | ret u => obtain ⟨v, σ', H', I, r, q⟩ := h; exact ⟨v, σ', H', inv_mkB hc I, r, q⟩
/-- an object of that class stands at a -/
def ExcN (a C : Addr) : Heap → Prop := fun h => ∃ o, h.get? a = some o ∧ o.cls = .ref C
theorem ExcN.ok {P : Program} {w : World} {H : Hp} {h : Heap} {a C : Addr} (x : ExcN a C h) : ObjOk P w H h a (.ext (ExcN a C)) := by
  obtain ⟨o, ho, hc⟩ := id x
  refine ⟨x, ⟨o, ho⟩, fun h1 h2 y k => ?_⟩
  obtain ⟨o, ho, hc⟩ := y
  exact ⟨o, k o ho, hc⟩
/-- an exception that has come to this frame; whatever happens to its own records, the frame's word holds, and it may be looked at -/
def Land (X : Cx) (pins : List (Addr × Obj)) (σ : L2.St) (H : Hp) (ea : Addr) (cls : Value) (s : Shared) : Prop :=
  ∃ (B : Heap) (a0 : Value), Heap.FlyingW B X.stack ea cls a0 s.heap ∧ H ea = none ∧ ∀ h, Heap.FlyingW B X.stack ea cls a0 h → s.heap.UpToSlots h → L2.Inv X pins σ H { s with heap := h } ∧ ∀ C, cls = .ref C → L2.Inv X pins σ (upd H ea (.ext (ExcN ea C))) { s with heap := h }
theorem landed {H' : Hp} {ea : Addr} {cls : Value} {s' : Shared} (I : L2.Inv X pins σ H s) (F : Fly X.prog X.w X.stack H s ea cls H' s') : Land X pins σ H' ea cls s' := by
  obtain ⟨B, a0, fl, tr, old, all⟩ := F.ex
  have hfr : ea ∉ frs X.stack := fun hm => by
    obtain ⟨_, _, f3, oe, vs, _, _, _, he, _, hd, _⟩ := fl
    obtain ⟨_, o, ho, hnf⟩ := f3.mem hm
    rw [he] at ho
    cases ho
    exact hnf vs hd
  have hnew : s.heap.get? ea = none := by
    cases e : s.heap.get? ea with
    | none => rfl
    | some o =>
      obtain ⟨o', e'⟩ := all ea o e hfr
      rw [fl.2.1] at e'
      cases e'
  have hfree : H' ea = none := by
    cases e : H' ea with
    | none => rfl
    | some u =>
      obtain ⟨o', e'⟩ := tr ea u e
      rw [fl.2.1] at e'
      cases e'
  have hne : ∀ b o, s.heap.get? b = some o → b ≠ ea := fun b o e z => by
    rw [z, hnew] at e
    cases e
  have hneH : ∀ b u, H b = some u → b ≠ ea := fun b u e => by
    obtain ⟨o, ho⟩ := obj_there (I.hok b u e)
    exact hne b o ho
  refine ⟨B, a0, fl, hfree, fun h x1 x2 => ?_⟩
  have slot : ∀ b o, s.heap.get? b = some o → H b = none → b ∈ frs X.stack → ∃ sl, h.get? b = some { o with slots := sl } := fun b o z n hb => by
    obtain ⟨sl, z1⟩ := F.un.slot b o z n hb (by simp)
    obtain ⟨_, o', ho', hd⟩ := I.stack.mem hb
    rw [z] at ho'
    cases ho'
    obtain ⟨sl', z2⟩ := x2 b _ z1 hd
    exact ⟨sl', z2⟩
  have un : Un (frs X.stack) [] H H' s.heap h := ⟨fun b o z n hb _ => x1.1 b o (old b o z n hb), fun b o z n hb _ => slot b o z n hb, fun b o z n _ => F.un.free b o z n (by simp), fun b o z _ => by
    by_cases hb : b ∈ frs X.stack
    · obtain ⟨sl, z2⟩ := slot b o z (I.stkFree b hb) hb
      exact ⟨_, z2⟩
    · obtain ⟨o', z2⟩ := all b o z hb
      exact ⟨o', x1.1 b o' z2⟩, F.un.tups, F.un.frzs, F.un.tbls⟩
  have os := F.os
  have bare := F.bare
  have hok := hok_fly F.hok tr fl.1 x1.1
  refine ⟨I.call' (s' := { s' with heap := h }) (ch := []) os un hok bare fun b z => absurd z (by simp), fun C hC => ?_⟩
  refine I.call' (s' := { s' with heap := h }) (ch := []) os ⟨un.keep, un.slot, fun b o z n hx => ?_, un.there, fun b xs e => ?_, fun b o u e => ?_, fun b ps e => ?_⟩ (fun b u e => ?_) bare fun b z => absurd z (by simp)
  · rw [upd_ne (hne b o z)]
    exact un.free b o z n hx
  · rw [upd_ne (hneH b _ e)]
    exact un.tups b xs e
  · rw [upd_ne (hneH b _ e)]
    exact un.frzs b o u e
  · rw [upd_ne (hneH b _ e)]
    exact un.tbls b ps e
  · by_cases hb : b = ea
    · subst hb
      rw [upd_same] at e
      cases e
      obtain ⟨ob, h1, h2⟩ := x1.there
      exact ExcN.ok ⟨ob, h1, h2.trans hC⟩
    · rw [upd_ne hb] at e
      exact (hok b u e).stay (fun c v _ q => q) (fun c q => by rw [upd_ne (ne_of_none q hfree)]; exact q) fun c xs q => by rw [upd_ne (ne_of_none q hfree)]; exact q
end
/-- the clauses, from the first on -/
def Hands (X : Cx) (hs : List ExceptHandler) (th : Value → TS) : Prop :=
  ∀ (pins : List (Addr × Obj)) (σ : L2.St) (H : Hp) (s : Shared) (ea : Addr) (cls : Value) (D : Ends), Land X pins σ H ea cls s → th cls D σ H → wpAny (model X.prog X.w) X.A (handleBy (.ref ea) X.env hs) (SP X pins D) X.xe s
def hNil : Value → TS := fun _ _ _ _ => False
def hCons (K : PySem.W.Frag) (C : Addr) (ts : TS) (th : Value → TS) : Value → TS := fun cls D σ H => ∃ b, PySem.W.exmOne K cls (.ref C) = some b ∧ if b = true then ts D σ H else th cls D σ H
theorem hands_nil {X : Cx} : Hands X [] hNil := fun _ _ _ _ _ _ _ _ h => h.elim
theorem hands_cons {X : Cx} {c : Str} {C : Addr} {np pos : Pos} {b₀ : Stmt} {suite : List Stmt} {rest : List ExceptHandler} {ts : TS} {th : Value → TS} (hc : X.calm = true) (hg : Gl X c) (hm : X.mg c = some (.ref C)) (hs : ∀ e : Value, PSs (mkX X e) (b₀ :: suite) ts) (hr : Hands X rest th)
    (hd : (c == ("__debug__" : Str)) = false := by decide) : Hands X (.ExceptHandler (some (.Name c np)) none (b₀ :: suite) pos :: rest) (hCons X.K C ts th) := by
  intro pins σ H s ea cls D L h
  obtain ⟨b, hb, h⟩ := h
  have L' := L
  obtain ⟨B, a0, fl, _, inv⟩ := L
  have I := (inv s.heap fl (Heap.UpToSlots.refl _)).1
  have hh : X.A.handled = none := I.ok.hd hc
  refine wpAny_handleBy_cons (codeAny_handlers_test (ld_glob (X := mkX X (.ref ea)) (inv_mk I) hg hm ?_ hd)) (by intro q; cases q)
  obtain ⟨ob, hob, hcl⟩ := fl.there
  have lt : PySem.W.Looks (model X.prog X.w) s.heap (typeOf (.ref ea)) cls := (PySem.W.Looks.ld hob).andThen (by rw [hcl]; exact PySem.W.Looks.now)
  refine (PySem.W.exm_one I.kIn lt hb).here ?_
  cases b with
  | true =>
    refine codeAny_handlers_suite (lands_againW fl fun h6 x1 x2 => ?_)
    have I6 := inv_mk (e := .ref ea) (inv h6 x1 x2).1
    exact wpAny_mono (hs (.ref ea) pins _ σ H D I6 h) (fun f s2 q => sp_mkB hh q) fun _ _ z => z.elim
  | false => exact hr pins σ H s ea cls D L' h
/-- f(..) within a try: what is wanted of an exception may speak of the names -/
def tCallS (sp : Sp) (EX : L2.St → Value → Hp → Prop) (t : TA) : TE := fun σ H Q => t σ H fun vs H1 => sp vs H1 Q fun cls _ H' => EX σ cls H'
def PassesS (X : Cx) (EX : L2.St → Value → Hp → Prop) : Prop := ∀ (pins : List (Addr × Obj)) (σ : L2.St) (H : Hp) (s : Shared) (e : Value) (s' : Shared), L2.Inv X pins σ H s → CX1 X.prog X.w X.stack H s (fun cls _ H' => EX σ cls H') e s' → X.xe e s'
section
variable {X : Cx} {k : Nat} {f : Addr} {fd : FuncData} {ps : List Str} {sp : Sp} {x : Str} {p pos : Pos} {e : Expr} {es : List Expr} {t : TA} {EX : L2.St → Value → Hp → Prop}
theorem pe_callS (F : FnOk X.prog X.w X.K X.mg X.base (CX1 X.prog X.w) k f fd ps sp) (hr : Room k X.A) (hg : Gl X x) (hm : X.mg x = some (.ref f)) (hk : PySem.W.keepIn X.K (.ref f) = true) (hb : Binds X.K fd ps []) (hx : PassesS X EX)
    (ha : PA X (e :: es) t) (hdb : (x == ("__debug__" : Str)) = false := by decide) (he : starEach (e :: es) X.env = (false, eval e X.env) :: starEach es X.env := by rfl) (hpl : (backTo pos (starEach es X.env)).any (·.1) = false := by rfl) :
    PE X (.Call (.Name x p) (e :: es) [] pos) (tCallS sp EX t) := by
  intro pins s σ H Q I h
  refine wpAny_Call_Name_kw (ld_glob I hg hm ?_ hdb)
  refine PySem.W.callWith_K (h₀ := X.base) I.ok.mod.kin hk (thn (ha pos pins s σ H _ I h) fun us s1 ⟨vs, H1, I1, r, q⟩ => ⟨I1.kIn, ?_⟩) he hpl
  have hl : us.length = ps.length := by rw [← r.length]; exact F.len _ _ _ _ q
  have hb' := hb s1 us I1.kIn (by rw [List.append_nil]; exact hl)
  rw [List.append_nil] at hb'
  refine wpAny_call (codeAny_mono (F.run X.A X.stack s1 H1 ⟨us, []⟩ us vs Q (fun cls _ H' => EX σ cls H') hr I1.env0 hb' r q) fun r s' hq => ?_)
  cases r with
  | error e => exact hx pins σ H1 s1 e s' I1 hq
  | ok fl =>
    cases fl with
    | ret u => exact I1.after hq
    | next => exact False.elim hq
    | brk => exact False.elim hq
    | cont => exact False.elim hq
def sTry (tb : (L2.St → Value → Hp → Prop) → TS) (th : Value → TS) : TS := fun D σ H => ∃ EX : L2.St → Value → Hp → Prop, tb EX D σ H ∧ ∀ σ' cls H', EX σ' cls H' → th cls D σ' H'
theorem ps_try {body : List Stmt} {h₀ : ExceptHandler} {hs : List ExceptHandler} {tb : (L2.St → Value → Hp → Prop) → TS} {th : Value → TS} {pos : Pos} (hst : ∃ L, X.stack = X.env :: X.outer ∧ X.env.frame = some L)
    (hb : ∀ (EX : L2.St → Value → Hp → Prop) (pn : List (Addr × Obj)) (xe : Value → Shared → Prop), PassesS (reX X pn xe) EX → PSs (reX X pn xe) body (tb EX)) (hh : Hands X (h₀ :: hs) th) :
    PS X (.Try body (h₀ :: hs) [] [] pos) (sTry tb th) := by
  intro pins s σ H D I h
  obtain ⟨EX, h, hth⟩ := h
  obtain ⟨L, hst, hfr⟩ := hst
  refine wpAny_Try_except (wpAny_mono (hb EX (X.pn ++ pins) _ ?_ [] s σ H D (inv_re I) h) (fun f s1 q => ?_) fun _ _ z => z)
  · rintro pins' σ' H1 s1 e s' I1 ⟨ea, cls, H', rfl, F, q⟩
    have I1' : L2.Inv X pins σ' H1 s1 := inv_back I1
    have LD := landed I1' F
    obtain ⟨B, a0, fl, fre, inv⟩ := LD
    rw [hst] at fl
    refine wpAny_looks_onW (by rw [← hst]; exact I.ok.frames) hfr fl fun h4 x1 x2 => ?_
    refine wpAny_landsW x1 fun h5 y1 y2 => ?_
    rw [← hst] at y1 fl
    refine hh pins σ' H' _ ea cls D ⟨B, a0, y1, fre, fun h6 z1 z2 => inv h6 z1 ((x2.trans y2).trans z2)⟩ (hth σ' cls H' q)
  · cases f with
    | next => exact wpAny_execs_nil (sp_back (f := .next) q)
    | brk => exact sp_back (f := .brk) q
    | cont => exact sp_back (f := .cont) q
    | ret u => exact sp_back (f := .ret u) q
end
end Fx

set_option Elab.async false
set_option linter.all false
set_option maxRecDepth 100000
namespace Fx
open PySem PySem.Spec PyProof.Rows L2
/-! ### d.values(): the view, its walk -/
section
variable {prog : Program} {w : World} {A : Around} {E : Value → Shared → Prop} {s : Shared} {d it : Addr} {es : Array DictEntry} {ep i : Nat}
end
section
variable {X : Cx}
/-! ### list.count of texts, of truths -/
end
section
variable {X : Cx}
end
/-! ### classes of exceptions, defs that raise -/
structure Kls (K : PySem.W.Frag) (mg : Str → Option Value) (x : Str) where
  C : Addr
  mg : mg x = some (.ref C)
  ex : PySem.W.excIn K C bmV "ValueError.__new__" = true
  ns : PySem.W.nsIn K mainGlobals x = some (some (.ref C))
structure GotC (K : PySem.W.Frag) (x : Str) : Prop where
  ex : ∃ C, PySem.W.nsIn K mainGlobals x = some (some (.ref C)) ∧ PySem.W.excIn K C bmV "ValueError.__new__" = true
theorem gotc_mk {K : PySem.W.Frag} {x : Str} {C : Addr} (a : PySem.W.nsIn K mainGlobals x = some (some (.ref C))) (e : PySem.W.excIn K C bmV "ValueError.__new__" = true) : GotC K x := ⟨C, a, e⟩
structure GotM (K : PySem.W.Frag) (x y : Str) (v : Bool) : Prop where
  ex : ∃ A B, PySem.W.nsIn K mainGlobals x = some (some (.ref A)) ∧ PySem.W.nsIn K mainGlobals y = some (some (.ref B)) ∧ PySem.W.exmOne K (.ref A) (.ref B) = some v
theorem gotm_mk {K : PySem.W.Frag} {x y : Str} {v : Bool} {A B : Addr} (a : PySem.W.nsIn K mainGlobals x = some (some (.ref A))) (b : PySem.W.nsIn K mainGlobals y = some (some (.ref B))) (e : PySem.W.exmOne K (.ref A) (.ref B) = some v) : GotM K x y v := ⟨A, B, a, b, e⟩
theorem GotM.of {K : PySem.W.Frag} {x y : Str} {v : Bool} {A B : Addr} (h : GotM K x y v) (a : PySem.W.nsIn K mainGlobals x = some (some (.ref A))) (b : PySem.W.nsIn K mainGlobals y = some (some (.ref B))) : PySem.W.exmOne K (.ref A) (.ref B) = some v := by
  obtain ⟨A', B', h1, h2, h3⟩ := h.ex
  rw [a] at h1
  rw [b] at h2
  cases h1
  cases h2
  exact h3
structure CalX (P : Program) (w : World) (K : PySem.W.Frag) (mg : Str → Option Value) (base : Heap) (k : Nat) (x : Str) (ps : List Str) (sp : Sp) where
  f : Addr
  fd : FuncData
  ok : FnOk P w K mg base (CX1 P w) k f fd ps sp
  mg : mg x = some (.ref f)
  kp : PySem.W.keepIn K (.ref f) = true
  b : Binds K fd ps []
end Fx

set_option Elab.async false
set_option linter.all false
set_option maxRecDepth 100000
namespace Fx
open PySem PySem.Spec PyProof.Rows L2
/-! ### boards, sound or not -/
structure Raw where
  c : Int
  lanes : List (Int × Int)
  coops : List Int
def rawD (R : Raw) : PyData := .tuple [.int R.c, .list (R.lanes.map laneD), .list (R.coops.map .int)]
theorem At.raw {H : Hp} {v : V} {R : Raw} (h : At H v (rawD R)) : ∃ p la ca ls, v = .ref p ∧ H p = some (.tup [.int R.c, .ref la, .ref ca]) ∧ H la = some (.lst ls) ∧ AtAll H ls (R.lanes.map laneD) ∧ H ca = some (.lst (R.coops.map V.int)) := by
  cases h with
  | tup e t =>
    cases t with
    | cons a t =>
      cases t with
      | cons b t =>
        cases t with
        | cons c t =>
          cases t
          cases a
          cases b with
          | lst eb tb =>
            cases c with
            | lst ec tc =>
              have ex := tc.ints_of
              subst ex
              exact ⟨_, _, _, _, rfl, e, eb, tb, ec⟩
theorem raw_at {H : Hp} {p la ca : Addr} {ls : List V} {R : Raw} (h1 : H p = some (.tup [.int R.c, .ref la, .ref ca])) (h2 : H la = some (.lst ls)) (h3 : AtAll H ls (R.lanes.map laneD)) (h4 : H ca = some (.lst (R.coops.map V.int))) : At H (.ref p) (rawD R) :=
  .tup h1 (.cons (.int _) (.cons (.lst h2 h3) (.cons (.lst h4 (AtAll.ints _)) .nil)))
def numsR (R : Raw) : List Int := R.lanes.map (·.1) ++ R.lanes.map (·.2) ++ R.coops
def outR (c z : Int) : Bool := decide (z < 0) || decide (c ≤ z)
inductive Flt where
  | yards | bad | twice
def fltR (R : Raw) : Option Flt := if R.c < 1 then some .yards else if (numsR R).any (outR R.c) = true then some .bad else if R.lanes.Nodup ∧ R.coops.Nodup then none else some .twice
def wordF : Option Flt → Str
  | none => "sound"
  | some .yards => "yards"
  | some .bad => "bad"
  | some .twice => "twice"
structure SmallR (R : Raw) : Prop where
  c : R.c ≤ 7
  l : R.lanes.length ≤ 63
  k : R.coops.length ≤ 20
def brd (R : Raw) : Brd := ⟨R.c.toNat, R.lanes, R.coops⟩
theorem sub_lenG {α : Type} [DecidableEq α] : ∀ {xs ys : List α}, xs.Nodup → (∀ x ∈ xs, x ∈ ys) → xs.length ≤ ys.length
  | [], _, _, _ => Nat.zero_le _
  | x :: xs, ys, hn, hs => by
    obtain ⟨h1, h2⟩ := List.nodup_cons.mp hn
    have hx := hs x List.mem_cons_self
    have := sub_lenG (xs := xs) (ys := ys.erase x) h2 fun z hz => by
      refine (List.mem_erase_of_ne ?_).mpr (hs z (List.mem_cons_of_mem _ hz))
      rintro rfl
      exact h1 hz
    rw [List.length_erase_of_mem hx] at this
    have := List.length_pos_of_mem hx
    rw [List.length_cons]
    (first | lia | omega)
theorem pairs_len {l : List (Int × Int)} (hn : l.Nodup) (h : ∀ x ∈ l, (0 ≤ x.1 ∧ x.1 < 7) ∧ 0 ≤ x.2 ∧ x.2 < 7) : l.length ≤ 49 := by
  have := sub_lenG (ys := (List.range 49).map fun i => (((i / 7 : Nat) : Int), ((i % 7 : Nat) : Int))) hn fun x hx => by
    obtain ⟨⟨a1, a2⟩, b1, b2⟩ := h x hx
    refine List.mem_map.mpr ⟨x.1.toNat * 7 + x.2.toNat, List.mem_range.mpr (by (first | lia | omega)), ?_⟩
    refine Prod.ext ?_ ?_
    · show (((x.1.toNat * 7 + x.2.toNat) / 7 : Nat) : Int) = x.1
      (first | lia | omega)
    · show (((x.1.toNat * 7 + x.2.toNat) % 7 : Nat) : Int) = x.2
      (first | lia | omega)
  rw [List.length_map, List.length_range] at this
  exact this
theorem not_out {c z : Int} (h : ¬ outR c z = true) : 0 ≤ z ∧ z < c := by
  unfold outR at h
  rw [Bool.or_eq_true, decide_eq_true_iff, decide_eq_true_iff] at h
  (first | lia | omega)
theorem flt_none {R : Raw} (h : fltR R = none) : 1 ≤ R.c ∧ (∀ z ∈ numsR R, 0 ≤ z ∧ z < R.c) ∧ R.lanes.Nodup ∧ R.coops.Nodup := by
  unfold fltR at h
  by_cases c1 : R.c < 1
  · rw [if_pos c1] at h
    cases h
  rw [if_neg c1] at h
  by_cases c2 : (numsR R).any (outR R.c) = true
  · rw [if_pos c2] at h
    cases h
  rw [if_neg c2] at h
  by_cases c3 : R.lanes.Nodup ∧ R.coops.Nodup
  · exact ⟨by (first | lia | omega), fun z hz => not_out fun y => c2 (List.any_eq_true.mpr ⟨z, hz, y⟩), c3⟩
  · rw [if_neg c3] at h
    cases h
theorem raw_good {R : Raw} (h : fltR R = none) (s : SmallR R) : Good (brd R) ∧ rawD R = boardD (brd R) := by
  obtain ⟨h1, h2, h3, h4⟩ := flt_none h
  have hc := s.c
  have en : ((R.c.toNat : Nat) : Int) = R.c := by (first | lia | omega)
  have rng : ∀ l ∈ R.lanes, (0 ≤ l.1 ∧ l.1 < R.c) ∧ 0 ≤ l.2 ∧ l.2 < R.c := fun l hl =>
    ⟨h2 _ (List.mem_append_left _ (List.mem_append_left _ (List.mem_map.mpr ⟨l, hl, rfl⟩))), h2 _ (List.mem_append_left _ (List.mem_append_right _ (List.mem_map.mpr ⟨l, hl, rfl⟩)))⟩
  refine ⟨⟨?_, ?_, ?_, h3, fun l hl => ?_, fun z hz => ?_, h4⟩, ?_⟩
  · show 1 ≤ R.c.toNat
    (first | lia | omega)
  · show R.c.toNat ≤ 7
    (first | lia | omega)
  · have := pairs_len h3 fun x hx => by
      obtain ⟨⟨a1, a2⟩, b1, b2⟩ := rng x hx
      exact ⟨⟨a1, by (first | lia | omega)⟩, b1, by (first | lia | omega)⟩
    exact Nat.le_trans this (by decide)
  · show (0 ≤ l.1 ∧ l.1 < ((R.c.toNat : Nat) : Int)) ∧ 0 ≤ l.2 ∧ l.2 < ((R.c.toNat : Nat) : Int)
    rw [en]
    exact rng l hl
  · show 0 ≤ z ∧ z < ((R.c.toNat : Nat) : Int)
    rw [en]
    exact h2 z (List.mem_append_right _ hz)
  · show PyData.tuple [.int R.c, _, _] = PyData.tuple [.int ((R.c.toNat : Nat) : Int), _, _]
    rw [en]
    rfl
theorem flt_yards {R : Raw} (h : R.c < 1) : fltR R = some .yards := if_pos h
theorem flt_bad {R : Raw} (h1 : ¬ R.c < 1) {z : Int} (hz : z ∈ numsR R) (h2 : outR R.c z = true) : fltR R = some .bad := by
  unfold fltR
  rw [if_neg h1, if_pos (List.any_eq_true.mpr ⟨z, hz, h2⟩)]
theorem flt_rest {R : Raw} (h1 : ¬ R.c < 1) (h2 : ∀ z ∈ numsR R, ¬ outR R.c z = true) : fltR R = if R.lanes.Nodup ∧ R.coops.Nodup then none else some .twice := by
  unfold fltR
  rw [if_neg h1, if_neg]
  intro z
  obtain ⟨x, hx, e⟩ := List.any_eq_true.mp z
  exact h2 x hx e
/-- the parts of the lanes, by a comprehension -/
theorem comp_lane {K : PySem.W.Frag} {G H H1 : Hp} {la D : Addr} {ls : List V} {lanes : List (Int × Int)} {j : Int} {pr : Int × Int → Int} {R : Hp → Prop} (hla : G la = some (.lst ls)) (als : AtAll G ls (lanes.map laneD)) (hlen : lanes.length ≤ 63)
    (hj : ∀ l : Int × Int, atI [V.int l.1, V.int l.2] j = some (.int (pr l))) (x : Ext G H G H1) (hD : H1 D = none) (hd : ∀ H', Ext G H G H' → Own H G H' D (.lst ((lanes.map pr).map V.int)) → Same H1 H' → R H') :
    ∃ W : Nat → Nat → L2.St → Hp → Prop, (∃ m, W 0 m [none] (upd H1 D (.lst []))) ∧ ∀ i m τ H2, W i m τ H2 →
      ((Itl K la).stop i H2 ∧ R H2) ∨ ((Itl K la).go i H2 ∧ ∃ N : L2.St → Hp → Prop, (∀ τ' H', N τ' H' → ∃ m', m' < m ∧ W (i + 1) m' τ' H') ∧
        ∀ x H', (Itl K la).yld i H2 x H' → gName 0 x τ H' fun τ2 H3 => ttT τ2 H3 fun b H4 => if b = true then tOp (rIx K) (tVar 0) (tC (.int j)) τ2 H4 fun y H5 => ∃ ys, H5 D = some (.lst ys) ∧ ys.length < sizeLine ∧ N τ2 (upd H5 D (.lst (ys ++ [y]))) else N τ2 H4) := by
  have el : ls.length = lanes.length := by rw [als.length, List.length_map]
  refine comp_list (xs := ls) (fun i τ H' => ∃ v, τ = [v] ∧ Ext G H G H' ∧ Own H G H' D (.lst (((lanes.take i).map pr).map V.int)) ∧ Same H1 H') ⟨none, rfl, x.lay hD, Own.fresh x hD, same_upd hD⟩ ?_ ?_ ?_
  · rintro i τ H' hi ⟨v, rfl, x, w, s⟩
    exact SqL.of (x.gh _ _ hla)
  · rintro i y τ H' hx ⟨v, rfl, x1, w1, s1⟩
    obtain ⟨d, hd, ad⟩ := als.get' hx
    rw [List.getElem?_map] at hd
    cases hl : lanes[i]? with
    | none => rw [hl] at hd; cases hd
    | some l =>
      rw [hl] at hd
      have hd : laneD l = d := Option.some.inj hd
      subst hd
      obtain ⟨c, rfl, hc⟩ := ad.lane
      have hc' := x1.gh _ _ hc
      refine tt_go ?_
      refine ⟨_, rfl, .inr (.inl ⟨c, _, j, .int (pr l), rfl, rfl, SqT.of hc', hj l, _, w1.is, ?_, _, rfl, w1.write x1, ?_, fun p o e => ?_⟩)⟩
      · rw [List.length_map, List.length_map, List.length_take]
        exact small1000 (by (first | lia | omega))
      · rw [List.take_add_one, hl, List.map_append, List.map_append]
        exact w1.set
      · rw [upd_ne (ne_of_none e hD)]
        exact s1 _ _ e
  · rintro τ H' ⟨v, rfl, x1, w1, s1⟩
    rw [el, List.take_length] at w1
    exact hd _ x1 w1 s1
def clsF (CY CB CT : Addr) : Flt → Addr
  | .yards => CY
  | .bad => CB
  | .twice => CT
end Fx

set_option Elab.async false
set_option linter.all false
set_option maxRecDepth 100000
namespace Fx
open PySem PySem.Spec PyProof.Rows L2
/-! ### except .. as e -/
section
variable {X : Cx} {pins : List (Addr × Obj)} {σ : L2.St} {H : Hp} {s : Shared}
/-- the frame's own names are lost, all else stands -/
theorem inv_lost {h' : Heap} {m' : Str → Option Value} {tk : Nat} (I : L2.Inv X pins σ H s) (hn' : h'.Ns X.env.locals m') (hs : Heap.SameBut X.env.locals s.heap h') : L2.Inv X pins (List.replicate X.N.length none) H { s with heap := h', toks := tk } := by
  obtain ⟨m, hn, _⟩ := id I.loc
  obtain ⟨oL, _, _, hoL, _⟩ := id hn
  have cne := I.cne
  have lo : ∀ b o, X.s₀.heap.get? b = some o → b ≠ X.env.locals := fun b o e => Nat.ne_of_lt (Nat.lt_of_lt_of_le (Heap.lt_size e) I.ok.above)
  refine ⟨I.ok, I.os, I.bare, ⟨fun b o e n hb hx => (hs.2 b (lo b o e)).trans (I.base.keep b o e n hb hx), fun b o e n hb hx => ?_, I.base.free, fun b o e hx => ?_, I.base.tups, I.base.frzs, I.base.tbls⟩, ⟨m', hn', fun j y v' e1 e2 e3 => ?_⟩, fun y c e => ?_, I.free, I.freeC, fun p hp => ?_, fun b u e => ?_, by simp⟩
  · obtain ⟨sl, e1⟩ := I.base.slot b o e n hb hx
    exact ⟨sl, (hs.2 b (lo b o e)).trans e1⟩
  · obtain ⟨o', e1⟩ := I.base.there b o e hx
    exact ⟨o', (hs.2 b (lo b o e)).trans e1⟩
  · rw [List.getElem?_replicate] at e2
    split at e2
    · cases e2
    · cases e2
  · obtain ⟨w', z⟩ := I.cell y c e
    exact ⟨w', z.sameBut hs (cne y c e)⟩
  · obtain ⟨e, n, ne, nf, d⟩ := I.pin p hp
    exact ⟨(hs.2 p.1 ne).trans e, n, ne, nf, d⟩
  · refine (I.hok b u e).stay (fun c w' hc q => (hs.2 c ?_).trans q) (fun _ q => q) fun _ _ q => q
    rintro rfl
    rcases hc with z | z
    · rw [← z, I.free] at e
      cases e
    · rw [I.free] at z
      cases z
end
def retD (D : Ends) : Ends := { nx := fun _ _ => False, rt := D.rt }
/-- what a clause with a name asks: its suite returns -/
def hAs (K : PySem.W.Frag) (C : Addr) (i : Nat) (ts : TS) (th : Value → TS) : Value → TS := fun cls D σ H => ∃ b, PySem.W.exmOne K cls (.ref C) = some b ∧ if b = true then ∃ D', cls = .ref D' ∧ ∀ ea, H ea = none → ts (retD D) (σ.set i (some (.ref ea))) (upd H ea (.ext (ExcN ea D'))) else th cls D σ H
theorem hands_as {X : Cx} {c : Str} {C : Addr} {n : Str} {i : Nat} {np pos : Pos} {b₀ : Stmt} {suite : List Stmt} {rest : List ExceptHandler} {ts : TS} {th : Value → TS} (hN : X.N.Nodup) (hi : X.N[i]? = some n) (hl : X.env.kindOf n = some .local) (hc : X.calm = true) (hg : Gl X c) (hm : X.mg c = some (.ref C)) (hs : ∀ e : Value, PSs (mkX X e) (b₀ :: suite) ts) (hr : Hands X rest th)
    (hlo : X.env.scope.names.lookup n = some .local := by rfl) (hd : (c == ("__debug__" : Str)) = false := by decide) : Hands X (.ExceptHandler (some (.Name c np)) (some n) (b₀ :: suite) pos :: rest) (hAs X.K C i ts th) := by
  intro pins σ H s ea cls D L h
  obtain ⟨b, hb, h⟩ := h
  have L' := L
  obtain ⟨B, a0, fl, fre, inv⟩ := L
  have I := (inv s.heap fl (Heap.UpToSlots.refl _)).1
  have hh : X.A.handled = none := I.ok.hd hc
  refine wpAny_handleBy_cons (codeAny_handlers_test (ld_glob (X := mkX X (.ref ea)) (inv_mk I) hg hm ?_ hd)) (by intro q; cases q)
  obtain ⟨ob, hob, hcl⟩ := fl.there
  have lt : PySem.W.Looks (model X.prog X.w) s.heap (typeOf (.ref ea)) cls := (PySem.W.Looks.ld hob).andThen (by rw [hcl]; exact PySem.W.Looks.now)
  refine (PySem.W.exm_one I.kIn lt hb).here ?_
  cases b with
  | true =>
    obtain ⟨D', rfl, h⟩ := h
    have h := h ea fre
    refine codeAny_handlers_suite_as (lands_againW fl fun h6 x1 x2 => ?_)
    have I6 := inv_mk (e := .ref ea) ((inv h6 x1 x2).2 D' rfl)
    refine store_ok (X := mkX X (.ref ea)) I6 hN hi (.inl hlo) (v := .ref ea) rfl (fun s7 I7 => ?_) (.inr hlo)
    refine wpAny_mono (hs (.ref ea) pins s7 _ _ (retD D) I7 h) (fun f s2 q => ?_) fun _ _ z => z.elim
    have q := sp_mkB hh q
    cases f with
    | next => obtain ⟨_, _, _, z⟩ := q; exact z.elim
    | brk => obtain ⟨_, _, _, z⟩ := q; exact z.elim
    | cont => obtain ⟨_, _, _, z⟩ := q; exact z.elim
    | ret u =>
      obtain ⟨v, σ2, H2, I2, rv, qv⟩ := q
      obtain ⟨m2, hn2, _⟩ := id I2.loc
      refine wpAny_nameGoes hl hn2 (by rw [I.ok.kind]; rfl) fun h3 m3 hn3 hs3 => ?_
      exact ⟨v, _, H2, inv_lost I2 hn3 hs3, rv, qv⟩
  | false => exact hr pins σ H s ea cls D L' h
end Fx

set_option Elab.async false
set_option linter.all false
set_option maxRecDepth 100000
namespace Fx
open PySem PySem.Spec PyProof.Rows L2
/-! ### isinstance of an exception that was caught -/
structure ClsAt (K : PySem.W.Frag) (C : Addr) : Prop where
  get : PySem.W.findIn K (.ref C) "__getattribute__" = some (some (.builtin "BaseException.__getattribute__"))
  hook : PySem.W.findIn K (.ref C) "__getattr__" = some none
  own : PySem.W.findIn K (.ref C) "__class__" = some (some (.builtin "object.__class__"))
  gs : PySem.W.specialIn K (.builtin "object.__class__") "__get__" = some (some (.builtin "getset_descriptor.__get__"))
  tk : PySem.W.takesIn K (.builtin "object.__class__") = some true
  mro : PySem.W.mroIn K C (.type "object") = some true
  mroB : PySem.W.mroIn K C (.type "BaseException") = some true
section
open PySem.Builtin.Getset_descriptor
variable {prog : Program} {w : World} {A : Around} {E : Value → Shared → Prop} {K : PySem.W.Frag} {x C : Addr}
theorem exc_ty {M : Model} {h : Heap} (N : ExcN x C h) : PySem.W.Looks M h (typeOf (.ref x)) (.ref C) := by
  obtain ⟨o, ho, hc⟩ := N
  exact (PySem.W.Looks.ld ho).andThen (by rw [hc]; exact PySem.W.Looks.now)
theorem exc_find {M : Model} {h : Heap} (k : ClsAt K C) (X : K.In h) : PySem.W.Looks M h (Builtin.ObjectAttr.find (.ref x) (.ref C) "__class__") (Builtin.ObjectAttr.Found.bind (.builtin "getset_descriptor.__get__") (.builtin "object.__class__")) := by
  have a := PySem.W.looks_findIn (M := M) X k.own
  have b := PySem.W.looks_specialIn (M := M) X k.gs
  have c : PySem.W.Looks M h (Builtin.ObjectAttr.dataDescriptor? (some (.builtin "object.__class__")) (some (.builtin "getset_descriptor.__get__"))) (some (.builtin "getset_descriptor.__get__", .builtin "object.__class__")) := (PySem.W.looks_takesIn (M := M) X k.tk).andThen PySem.W.Looks.now
  exact a.andThen (b.andThen (c.andThen (PySem.W.Looks.tag PySem.W.Looks.now)))
theorem exc_get {tp : Value} {s : Shared} {R : Result → Shared → Prop} (k : ClsAt K C) (X : K.In s.heap) (N : ExcN x C s.heap) (q : R (.ok (.ret (.ref C))) s) :
    codeAny (model prog w) A (.call (.builtin "getset_descriptor.__get__") ⟨[.builtin "object.__class__", .ref x, tp], []⟩) R s := by
  obtain ⟨hp, gn, dr, tk, os⟩ := s
  have t0 : PySem.W.Looks (model prog w) hp (typeOf (.ref x)) (.ref C) := exc_ty N
  have m0 := PySem.W.looks_mroIn (M := model prog w) X k.mro
  refine codeAny_call_builtin PySem.W.KF.slot_gs.plain PySem.W.KF.entry_gs ?_
  refine PySem.W.KF.slot_gs.check _ _ _ _ _ _ _ _ PySem.W.KF.type_class (PySem.W.KF.args_gs _ _ _) ?_
  unfold Builtin.«getset_descriptor.__get__»
  unfold descrGet
  rw [PySem.W.dga_obj]
  refine wpAny_bind (wpAny_pure ?_)
  unfold descrGetter descrCheckInstance
  unfold descrNameAndClass isInstance
  simp only [PySem.W.KF.owner_class]
  repeat lk
  refine ⟨Code.quiet_builtin _ (by decide +kernel), ?_⟩
  refine codeAny_builtin PySem.W.KF.entry_class ?_
  unfold Builtin.«object.__class__»
  unfold shownTypeOf
  repeat lk
  exact q
/-- the exception's own entry takes it -/
theorem exc_check {M : Model} {nv : Value} {s : Shared} {Q : Unit → Shared → Prop} (k : ClsAt K C) (X : K.In s.heap) (N : ExcN x C s.heap) (q : Q () s) :
    wpAny M A (checkBuiltinCall "BaseException.__getattribute__" ⟨[.ref x, nv], []⟩) Q E s := by
  obtain ⟨hp, gn, dr, tk, os⟩ := s
  have b1 : builtinKind "BaseException.__getattribute__" = some .slot := by decide +kernel
  have b2 : splitId "BaseException.__getattribute__" = some ("BaseException", "__getattribute__") := by decide +kernel
  have t0 : PySem.W.Looks M hp (typeOf (.ref x)) (.ref C) := exc_ty N
  have m0 := PySem.W.looks_mroIn (M := M) X k.mroB
  have aok := F.args_bexc_ga (.ref x) nv
  simp only [checkBuiltinCall, b1, b2]
  refine wpAny_bind ?_
  unfold isInstance
  refine wpAny_bind (t0.at ?_)
  refine m0.at ?_
  repeat (first | assumption | wp_step)
theorem exc_entry {nt : Tok} {s : Shared} {Q : Fin → Shared → Prop} (k : ClsAt K C) (X : K.In s.heap) (N : ExcN x C s.heap) (q : Q (.done (.ret (.ref C))) s) :
    wpAny (model prog w) A (Builtin.«object.__getattribute__» ⟨[.ref x, .str "__class__" nt], []⟩) Q E s := by
  obtain ⟨hp, gn, dr, tk, os⟩ := s
  have t0 : PySem.W.Looks (model prog w) hp (typeOf (.ref x)) (.ref C) := exc_ty N
  have f0 := exc_find (M := model prog w) (x := x) k X
  unfold Builtin.«object.__getattribute__»
  refine wpAny_bind (wpAny_pure ?_)
  refine wpAny_bind (wpAny_pure ?_)
  refine wpAny_bind (t0.at ?_)
  refine wpAny_bind (f0.at ?_)
  change wpAny _ _ (holding [_] (call _ [_, .ref x, .ref C]) >>= ret) _ _ _
  refine wpAny_bind (wpAny_holding (wpAny_call ?_))
  refine exc_get (s := ⟨hp, gn, dr, tk, os⟩) k X N ?_
  exact wpAny_pure q
theorem exc_cls {s : Shared} {Q : Option Value → Shared → Prop} (k : ClsAt K C) (X : K.In s.heap) (N : ExcN x C s.heap) (q : Q (some (.ref C)) { s with toks := s.toks + 1 }) :
    wpAny (model prog w) A (getAttr? (.ref x) "__class__") Q E s := by
  obtain ⟨hp, gn, dr, tk, os⟩ := s
  have t0 : ∀ M : Model, PySem.W.Looks M hp (typeOf (.ref x)) (.ref C) := fun M => exc_ty N
  have bd := F.excAttr_ValueError.ga.bind (.ref x)
  have ne : (Value.builtin "BaseException.__getattribute__" == Value.builtin "object.__getattribute__") = false := by decide +kernel
  unfold getAttr?
  unfold getAttrBy?
  unfold getAttrBy
  refine wpAny_bind (wpAny_mkText ?_)
  refine wpAny_bind (wpAny_attempt (wpAny_holding ?_))
  refine wpAny_bind ((t0 _).at ?_)
  refine wpAny_bind ((PySem.W.looks_findIn X k.get).at ?_)
  show wpAny _ _ (if (onTheHeap (Value.ref C) && (Value.builtin "BaseException.__getattribute__" == Value.builtin "object.__getattribute__")) = true then _ else _) _ _ _
  rw [ne, Bool.and_false, if_neg Bool.false_ne_true]
  unfold getAttrByItsOwn
  refine wpAny_bind ?_
  show wpAny _ _ (typeLookup (Value.ref C) "__getattr__") _ _ _
  refine (PySem.W.looks_findIn X k.hook).at ?_
  refine wpAny_bind (wpAny_attempt (wpAny_holding ?_))
  show wpAny _ _ (boundAndCalled _ _ _) _ _ _
  unfold boundAndCalled
  rw [bd]
  refine wpAny_bind (wpAny_pure ?_)
  show wpAny _ _ (call (Value.builtin "BaseException.__getattribute__") [Value.ref x, _]) _ _ _
  refine wpAny_call (codeAny_call_builtin F.excAttr_ValueError.ga.plain F.entry_bexc_ga ?_)
  refine exc_check (s := ⟨hp, gn, dr, tk + 1, os⟩) k X N ?_
  refine exc_entry (s := ⟨hp, gn, dr, tk + 1, os⟩) k X N ?_
  refine PySem.W.handed_on rfl ?_
  exact wpAny_pure q
end
section
variable {K : PySem.W.Frag} {x C : Addr}
theorem exm_kit {t c : Value} {b : Bool} (h : PySem.W.exmOne K t c = some b) : PySem.W.kitCls K t c = some b := by
  unfold PySem.W.exmOne at h
  split at h
  · exact h
  · cases h
theorem cls_look {t : Value} {b : Bool} (h : PySem.W.kitCls K t (.ref C) = some b) : ∃ o cd, K.lookup C = some o ∧ o.data = .cls cd := by
  unfold PySem.W.kitCls at h
  simp only at h
  split at h
  · rename_i z
    have z := (Bool.and_eq_true_iff.mp z).1
    unfold PySem.W.clsIn at z
    split at z
    · rename_i hl
      exact ⟨_, _, hl, rfl⟩
    · cases z
  · cases h
theorem kitx_exc (k : ClsAt K C) (m : PySem.W.exmOne K (.ref C) (.ref C) = some true) : PySem.W.KitX K (.ref x) (.ref C) (ExcN x C) := by
  have e := exm_kit m
  refine ⟨fun _ _ _ N => exc_ty N, fun M h X _ => (PySem.W.kit_cls (M := M) X e).2.1, fun h tp dd its n sl X htp => ?_, fun X N q => exc_cls k X N q⟩
  obtain ⟨o, cd, h1, h2⟩ := cls_look e
  refine Bool.eq_false_iff.mpr fun z => ?_
  have z : C = tp := Value.ref.inj (beq_iff_eq.mp z)
  subst z
  have := (X _ _ h1).symm.trans htp
  cases this
  cases h2
theorem kit_one {t c : Value} {b : Bool} (m : PySem.W.exmOne K t t = some true) (h : PySem.W.exmOne K t c = some b) : PySem.W.kitOne K t c = some b := by
  unfold PySem.W.kitOne
  by_cases e : (t == c) = true
  · have e' := beq_iff_eq.mp e
    subst e'
    rw [m] at h
    rw [if_pos e]
    exact h
  · rw [if_neg e]
    exact exm_kit h
end
section
variable {X : Cx}
theorem isi_exc {ea D : Addr} {c : Value} {b : Bool} {pins : List (Addr × Obj)} {s : Shared} {σ : L2.St} {H : Hp} {Q : VK} (I : L2.Inv X pins σ H s) (hH : H ea = some (.ext (ExcN ea D))) (k : ClsAt X.K D) (m : PySem.W.exmOne X.K (.ref D) (.ref D) = some true) (h : PySem.W.exmOne X.K (.ref D) c = some b) (q : Q (.bl b) H) :
    wpAny (model X.prog X.w) X.A (call (.builtin "isinstance") [.ref ea, c]) (EP X pins σ Q) X.xe s := by
  have N := (show ObjOk X.prog X.w H s.heap ea (.ext (ExcN ea D)) from I.hok ea _ hH).1
  exact PySem.W.kia_one (kitx_exc k m) I.kIn N (kit_one m h) (by intro z; cases z) fun tk => ⟨.bl b, H, I.tok _, rfl, q⟩
def rIsiO (K : PySem.W.Frag) : List V → Hp → VK → Prop := fun xs H Q => ∃ ea D C b, xs = [.ref ea, .ref C] ∧ H ea = some (.ext (ExcN ea D)) ∧ ClsAt K D ∧ PySem.W.exmOne K (.ref D) (.ref D) = some true ∧ PySem.W.exmOne K (.ref D) (.ref C) = some b ∧ Q (.bl b) H
theorem isi_own {K : PySem.W.Frag} (hK : X.K = K) : CallR X (.builtin "isinstance") (rIsiO K) := by
  subst hK
  intro pins s σ H xs us Q I r h
  obtain ⟨ea, D, C, b, rfl, hH, k, m, h, q⟩ := h
  obtain ⟨u, u2, rfl, r1, r2⟩ := vals2 r
  cases (show u = Value.ref ea from r1)
  cases (show u2 = Value.ref C from r2)
  exact isi_exc I hH k m h q
def rIsiV (K : PySem.W.Frag) : List V → Hp → VK → Prop := fun xs H Q => ∃ ea D T b, xs = [.ref ea, .ty T] ∧ H ea = some (.ext (ExcN ea D)) ∧ ClsAt K D ∧ PySem.W.exmOne K (.ref D) (.ref D) = some true ∧ PySem.W.exmOne K (.ref D) (.type T) = some b ∧ Q (.bl b) H
theorem isi_blt {K : PySem.W.Frag} (hK : X.K = K) : CallR X (.builtin "isinstance") (rIsiV K) := by
  subst hK
  intro pins s σ H xs us Q I r h
  obtain ⟨ea, D, T, b, rfl, hH, k, m, h, q⟩ := h
  obtain ⟨u, u2, rfl, r1, r2⟩ := vals2 r
  cases (show u = Value.ref ea from r1)
  cases (show u2 = Value.type T from r2)
  exact isi_exc I hH k m h q
/-- a class of one's own, by its name -/
theorem pe_cls {x : Str} {C : Addr} {pos : Pos} (hg : Gl X x) (hm : X.mg x = some (.ref C)) (hd : (x == ("__debug__" : Str)) = false := by decide) : PE X (.Name x pos) (tC (.ref C)) :=
  fun _ _ _ H _ I h => ld_glob I hg hm ⟨.ref C, H, I, rfl, h⟩ hd
def cntB (bs : List Bool) (y : Bool) : Int := countIn (.bool y) (bs.map PyData.bool)
def rCountB : V → List V → Hp → VK → Prop := fun x vs H Q => ∃ (l : Addr) (bs : List Bool) (y : Bool), x = .ref l ∧ vs = [.bl y] ∧ H l = some (.lst (bs.map V.bl)) ∧ Q (.int (cntB bs y)) H
theorem bools_are {h : Heap} : ∀ {bs : List Bool} {its : List Value}, Vals (bs.map V.bl) its → ∃ as, ReadsAll h its (bs.map PyData.bool) as
  | [], _, .nil => ⟨[], .nil⟩
  | y :: r, _, .cons a t => by
    cases (show _ = Value.bool y from a)
    obtain ⟨as, z⟩ := bools_are (h := h) t
    exact ⟨_, .cons (.bool y) z⟩
theorem bools_all : ∀ bs : List Bool, (bs.map PyData.bool).all Shape.bool.has = true
  | [] => rfl
  | _ :: r => by rw [List.map_cons, List.all_cons, bools_all r]; rfl
theorem mt_countB : MtM X "list.count" rCountB := by
  intro pins s σ H x vs v us Q I rx rv h
  obtain ⟨l, bs, y, rfl, rfl, hH, q⟩ := h
  cases rx
  obtain ⟨u, rfl, ru⟩ := rv.one
  cases (show u = Value.bool y from ru)
  obtain ⟨z, its, n, r, hl, e⟩ := I.lstM hH
  obtain ⟨as, ra⟩ := bools_are (h := s.heap) r
  exact count_list_bools ⟨_, e, rfl, _, rfl⟩ ra (bools_all bs) ⟨.int _, H, I.tok _, ⟨_, rfl⟩, q⟩
theorem m_countB {K : PySem.W.Frag} (h : X.K = K) {o e : Expr} {to : TE} {t : TA} {ap cp : Pos} (ho : PE X o to) (ha : PA X [e] t) (hb : attributeBase o "count" X.env (eval o X.env) = eval o X.env := by rfl) (hline : (ap.endLine == cp.line) = true := by rfl) (hs : starEach [e] X.env = (false, eval e X.env) :: starEach [] X.env := by rfl) :
    PE X (.Call (.Attribute o "count" ap) [e] [] cp) (tBM K "list" rCountB to t) := by
  subst h
  exact pe_bm F.plainAttrs_list F.slot_list_count F.type_list_count mt_countB ho ha hb (by rw [hs]; rfl) hline hs
end
theorem b_ValueError : bootBuiltins "ValueError" = some (.type "ValueError") := by decide +kernel
/-! ### what the top says of the classes -/
structure GotN (K : PySem.W.Frag) (x : Str) : Prop where
  ex : ∃ C, PySem.W.nsIn K mainGlobals x = some (some (.ref C)) ∧ ClsAt K C
theorem gotn_mk {K : PySem.W.Frag} {x : Str} {C : Addr} (a : PySem.W.nsIn K mainGlobals x = some (some (.ref C))) (e1 : PySem.W.findIn K (.ref C) "__getattribute__" = some (some (.builtin "BaseException.__getattribute__"))) (e2 : PySem.W.findIn K (.ref C) "__getattr__" = some none) (e3 : PySem.W.findIn K (.ref C) "__class__" = some (some (.builtin "object.__class__")))
    (e4 : PySem.W.specialIn K (.builtin "object.__class__") "__get__" = some (some (.builtin "getset_descriptor.__get__"))) (e5 : PySem.W.takesIn K (.builtin "object.__class__") = some true) (e6 : PySem.W.mroIn K C (.type "object") = some true) (e7 : PySem.W.mroIn K C (.type "BaseException") = some true) : GotN K x := ⟨C, a, e1, e2, e3, e4, e5, e6, e7⟩
theorem GotN.of {K : PySem.W.Frag} {x : Str} {A : Addr} (h : GotN K x) (a : PySem.W.nsIn K mainGlobals x = some (some (.ref A))) : ClsAt K A := by
  obtain ⟨A', h1, h2⟩ := h.ex
  rw [a] at h1
  cases h1
  exact h2
structure GotV (K : PySem.W.Frag) (x : Str) : Prop where
  ex : ∃ C, PySem.W.nsIn K mainGlobals x = some (some (.ref C)) ∧ PySem.W.exmOne K (.ref C) (.type "ValueError") = some true
theorem gotv_mk {K : PySem.W.Frag} {x : Str} {C : Addr} (a : PySem.W.nsIn K mainGlobals x = some (some (.ref C))) (e : PySem.W.exmOne K (.ref C) (.type "ValueError") = some true) : GotV K x := ⟨C, a, e⟩
theorem GotV.of {K : PySem.W.Frag} {x : Str} {A : Addr} (h : GotV K x) (a : PySem.W.nsIn K mainGlobals x = some (some (.ref A))) : PySem.W.exmOne K (.ref A) (.type "ValueError") = some true := by
  obtain ⟨A', h1, h2⟩ := h.ex
  rw [a] at h1
  cases h1
  exact h2
end Fx

set_option Elab.async false
set_option linter.all false
set_option maxRecDepth 100000
namespace Fx
open PySem PySem.Spec PyProof.Rows L2
/-! ### n // a % b, and its comparison, at one go -/
section
variable {σ : L2.St} {H : Hp} {i : Nat} {n a b c : Int}
theorem te_dm {Q : VK} (h : σ[i]? = some (some (.int n))) (ha : 0 < a ∧ a < 1073741824) (hb : 0 < b) (q : Q (.int (n / a % b)) H) : tOp (rI (fun _ j => 0 < j) fun i j => .int (i % j)) (tOp (rI CDiv fun i j => .int (i / j)) (tVar i) (tC (.int a))) (tC (.int b)) σ H Q :=
  ⟨_, h, _, _, rfl, rfl, ha, _, _, rfl, rfl, hb, q⟩
theorem if_dm {t u : TS} {D : Ends} (h : σ[i]? = some (some (.int n))) (ha : 0 < a ∧ a < 1073741824) (hb : 0 < b) (h1 : t D σ H) (h2 : u D σ H) :
    tIfS (tTest (tOp rEq (tOp (rI (fun _ j => 0 < j) fun i j => .int (i % j)) (tOp (rI CDiv fun i j => .int (i / j)) (tVar i) (tC (.int a))) (tC (.int b))) (tC (.int c)))) t u D σ H := by
  refine ⟨_, h, _, _, rfl, rfl, ha, _, _, rfl, rfl, hb, rfl, _, rfl, ?_⟩
  exact ite2 (fun _ => h1) fun _ => h2
theorem ifk_t {t u : TS} {D : Ends} {k : Nat} (h : σ[i]? = some (some (.int (k : Int)))) (e : (k : Int) = c) (q : t D σ H) : tIfS (tTest (tOp rEq (tVar i) (tC (.int c)))) t u D σ H := by
  refine ⟨_, h, rfl, _, rfl, ?_⟩
  rw [decV, decide_eq_true e]
  exact iteT q
theorem ifk_f {t u : TS} {D : Ends} {k : Nat} (h : σ[i]? = some (some (.int (k : Int)))) (e : ¬ (k : Int) = c) (q : u D σ H) : tIfS (tTest (tOp rEq (tVar i) (tC (.int c)))) t u D σ H := by
  refine ⟨_, h, rfl, _, rfl, ?_⟩
  rw [decV, decide_eq_false e]
  exact iteF q
end
/-! ### picks, rows without doubles -/
/-- what comes behind is not looked at -/
theorem seq_cut {a b : TS} {D : Ends} {σ : L2.St} {H : Hp} (M : L2.St → Hp → Prop) (h2 : ∀ σ H, M σ H → b D σ H) (h1 : ∀ nx : L2.St → Hp → Prop, (∀ σ H, M σ H → nx σ H) → a { D with nx := nx } σ H) : tSeq a b D σ H := h1 _ h2
theorem pick2 (x0 x1 : V) (z : Int) : ∃ x, atI [x0, x1] (z % 2) = some x ∧ (x = x0 ∨ x = x1) := by
  rcases Int.emod_two_eq z with e | e
  · exact ⟨x0, by rw [e]; exact atI_nat (j := 0) rfl, .inl rfl⟩
  · exact ⟨x1, by rw [e]; exact atI_nat (j := 1) rfl, .inr rfl⟩
theorem pickI {ns : List Int} (z : Int) {n : Int} (hn : 0 < n) (h : n.toNat = ns.length) : ∃ y, atI (ns.map V.int) (z % n) = some (.int y) := by
  have h1 := Int.emod_nonneg z (show n ≠ 0 by (first | lia | omega))
  have h2 := Int.emod_lt_of_pos z hn
  exact ⟨_, atI_toNat h1 (by (first | lia | omega))⟩
/-- between two ifs -/
structure SplAt (G H G1 H1 : Hp) (la ca : Addr) (m n : Nat) : Prop where
  x : Ext G H G1 H1
  l : ∃ (ls : List V) (lanes : List (Int × Int)), G1 la = some (.lst ls) ∧ AtAll G1 ls (lanes.map laneD) ∧ lanes.length ≤ m
  c : ∃ coops : List Int, G1 ca = some (.lst (coops.map V.int)) ∧ coops.length ≤ n
def splP (G H : Hp) (b : V) (way seed c : Int) (m n : Nat) : L2.St → Hp → Prop := fun σ H1 => ∃ (la ca : Addr) (v6 v7 v8 : Option V) (G1 : Hp), σ = [some b, some (.int way), some (.int seed), some (.int c), some (.ref la), some (.ref ca), v6, v7, v8] ∧ SplAt G H G1 H1 la ca m n
theorem lane_at {H : Hp} {p : Addr} {a b : Int} (h : H p = some (.tup [.int a, .int b])) : At H (.ref p) (laneD (a, b)) := .tup h (.cons (.int _) (.cons (.int _) .nil))
theorem nodup_of_dbl {α : Type} [DecidableEq α] : ∀ {l : List α}, (∀ j x, l[j]? = some x → x ∉ l.drop (j + 1)) → l.Nodup
  | [], _ => List.nodup_nil
  | a :: r, h => List.nodup_cons.mpr ⟨h 0 a rfl, nodup_of_dbl fun j x e => h (j + 1) x e⟩
theorem not_nodup {α : Type} [DecidableEq α] : ∀ {l : List α} {j : Nat} {x : α}, l[j]? = some x → x ∈ l.drop (j + 1) → ¬ l.Nodup
  | [], _, _, e, _, _ => nomatch e
  | a :: r, 0, x, e, m, n => by
    have e : a = x := Option.some.inj e
    subst e
    exact (List.nodup_cons.mp n).1 m
  | a :: r, j + 1, x, e, m, n => not_nodup (l := r) (j := j) e m (List.nodup_cons.mp n).2
theorem cut_drop {xs : List V} {k : Nat} (h : k ≤ xs.length) : cutV xs (some (k : Int)) none = xs.drop k := by
  have e : HT.sIx xs.length 0 (some (k : Int)) = k := by
    have hk : ¬ ((k : Int) < 0) := by (first | lia | omega)
    unfold HT.sIx
    simp [hk]
    (first | lia | omega)
  have e2 : HT.sIx xs.length xs.length none = xs.length := rfl
  unfold cutV
  rw [e, e2, List.take_of_length_le]
  rw [List.length_drop]
  exact Nat.le_refl _
theorem at_drop {H : Hp} : ∀ {v : List V} {d : List PyData} (k : Nat), AtAll H v d → AtAll H (v.drop k) (d.drop k)
  | _, _, 0, h => h
  | _, _, _ + 1, .nil => .nil
  | _, _, k + 1, .cons _ t => at_drop k t
end Fx

set_option Elab.async false
set_option linter.all false
set_option maxRecDepth 100000
set_option maxHeartbeats 4000000
namespace K02
open PySem L2 Fx
def top (i : Nat) : Stmt := PySem.Challenge.pw_foxyard_k02_sound_boards.main.body.getD i (.Pass ⟨0, 0, 0, 0⟩)
abbrev sNums : Stmt := top 8
abbrev sTwice : Stmt := top 9
abbrev sCheck : Stmt := top 10
abbrev sWays : Stmt := top 11
abbrev sPositions : Stmt := top 13
abbrev sOther : Stmt := top 14
abbrev sAhead : Stmt := top 15
abbrev sMoved : Stmt := top 16
abbrev sWinner : Stmt := top 17
abbrev sEnded : Stmt := top 19
abbrev sBehind : Stmt := top 20
abbrev sSide : Stmt := top 21
abbrev sNewly : Stmt := top 22
abbrev sWon : Stmt := top 23
abbrev sMoveTold : Stmt := top 24
abbrev sVerdicts : Stmt := top 25
abbrev sSolved : Stmt := top 26
abbrev sLane : Stmt := top 28
abbrev sBest : Stmt := top 29
abbrev sLine : Stmt := top 30
abbrev sPlayed : Stmt := top 31
abbrev sRank : Stmt := top 32
abbrev sJudgement : Stmt := top 33
abbrev sJudged : Stmt := top 34
abbrev sTally : Stmt := top 35
abbrev sAt : Stmt := top 37
abbrev sBoard : Stmt := top 38
abbrev sSpoilt : Stmt := top 39
abbrev sRefusal : Stmt := top 40
abbrev sSaid : Stmt := top 41
abbrev sMixed : Stmt := top 42
abbrev sRefuses : Stmt := top 43
abbrev sLaw : Stmt := top 44
structure Txt (mg : Str → Option Value) : Prop where
  n_len : mg "len" = none
  n_set : mg "set" = none
  n_isinstance : mg "isinstance" = none
  n_sorted : mg "sorted" = none
  n_range : mg "range" = none
  n_ValueError : mg "ValueError" = none
section
variable {P : Program} {w : World} {K : PySem.W.Frag} {mg : Str → Option Value} {base : Heap}
/-! ### numbers_told, holds_twice, check_board -/
def spNums : Sp := fun vs H Q _ => ∃ (G : Hp) (b : V) (R : Raw), vs = [b] ∧ Same G H ∧ At G b (rawD R) ∧ R.lanes.length ≤ 63 ∧ R.coops.length ≤ 100 ∧
  ∀ (G' H' : Hp) (r : V), Ext G H G' H' → At G' r (.list ((numsR R).map .int)) → Q r H'
theorem scNums : FnScope ["board", "firsts", "seconds"] ["board"] (defScope sNums) := ⟨rfl, rfl, rfl, by decide +kernel, rfl, by decide +kernel, by decide +kernel⟩
theorem ok_nums {f : Addr} {fd : FuncData} (F : Fun K "numbers_told" "numbers_told" sNums f fd) (T : Txt mg) : FnOk P w K mg base CX0 1 f fd ["board"] spNums := by
  refine F.ok scNums (fun vs H Q E h => ?_) (fun cdv A outer s H vs Q E hr h => ?_)
  · obtain ⟨G, b, R, rfl, _⟩ := h
    rfl
  · obtain ⟨G, b, R, rfl, hG, hb, hlen, hclen, q⟩ := h
    obtain ⟨p, la, ca, ls, rfl, hp, hla, als, hca⟩ := hb.raw
    refine ⟨_, (pss_cons (ps_setComp (i := 1) ["lane"] [none] rfl (cs_mk (N₀ := ["board", "firsts", "seconds"]) (sc := defScope sNums) (by decide +kernel)) (pi_K (K := K) rfl (pe_ix (ix_K (K := K) rfl) (pv 0) pe_int (fun _ _ => rfl))) (fun _ _ _ _ _ => (pg_name (i := 0) (show (["lane"] : List Str).Nodup from by decide +kernel) rfl (Or.inl rfl))) (fun _ _ _ _ _ => pts_nil) (fun _ _ _ _ _ => (pe_ix (ix_K (K := K) rfl) (pv 0) pe_int (fun _ _ => rfl))) scNums.nd rfl (Or.inl rfl) rfl)
      (pss_cons (ps_setComp (i := 2) ["lane"] [none] rfl (cs_mk (N₀ := ["board", "firsts", "seconds"]) (sc := defScope sNums) (by decide +kernel)) (pi_K (K := K) rfl (pe_ix (ix_K (K := K) rfl) (pv 0) pe_int (fun _ _ => rfl))) (fun _ _ _ _ _ => (pg_name (i := 0) (show (["lane"] : List Str).Nodup from by decide +kernel) rfl (Or.inl rfl))) (fun _ _ _ _ _ => pts_nil) (fun _ _ _ _ _ => (pe_ix (ix_K (K := K) rfl) (pv 0) pe_int (fun _ _ => rfl))) scNums.nd rfl (Or.inl rfl) rfl)
      (pss_one (ps_ret (pe_op op_cat (pe_op op_cat (pv 1) (pv 2)) (pe_ix (ix_K (K := K) rfl) (pv 0) pe_int (fun _ _ => rfl))))))), ?_⟩
    -- firsts
    refine ⟨_, rfl, .inr (.inl ⟨p, _, 1, .ref la, rfl, rfl, SqT.of (hG _ _ hp), atI_nat (j := 1) rfl, la, rfl, ⟨ls, SqL.of (hG _ _ hla)⟩, fun D hD => ?_⟩)⟩
    refine comp_lane (j := 0) (pr := (·.1)) hla als hlen (fun l => atI_nat (j := 0) rfl) (Ext.refl hG) hD fun H1 x1 w1 _ => ?_
    -- seconds
    refine ⟨_, rfl, .inr (.inl ⟨p, _, 1, .ref la, rfl, rfl, SqT.of (x1.gh _ _ hp), atI_nat (j := 1) rfl, la, rfl, ⟨ls, SqL.of (x1.gh _ _ hla)⟩, fun D2 hD2 => ?_⟩)⟩
    refine comp_lane (j := 1) (pr := (·.2)) hla als hlen (fun l => atI_nat (j := 1) rfl) x1 hD2 fun H2 x2 z2 s2 => ?_
    have w2 : Own H G H2 D (.lst ((R.lanes.map (·.1)).map V.int)) := ⟨w1.new, w1.apart, s2 _ _ w1.is⟩
    -- firsts + seconds + board[2]
    refine ⟨_, rfl, _, rfl, D, D2, _, _, rfl, rfl, w2.is, z2.is, ?_, fun l1 hl1 => ?_⟩
    · simp only [List.length_map]
      exact few (by (first | lia | omega))
    have x3 := x2.lay (o := .lst ((R.lanes.map (·.1)).map V.int ++ (R.lanes.map (·.2)).map V.int)) hl1
    have l3 : upd H2 l1 (.lst ((R.lanes.map (·.1)).map V.int ++ (R.lanes.map (·.2)).map V.int)) l1 = some (.lst ((R.lanes.map (·.1)).map V.int ++ (R.lanes.map (·.2)).map V.int)) := upd_same
    generalize upd H2 l1 (.lst ((R.lanes.map (·.1)).map V.int ++ (R.lanes.map (·.2)).map V.int)) = H3 at x3 l3
    refine ⟨_, rfl, .inr (.inl ⟨p, _, 2, .ref ca, rfl, rfl, SqT.of (x3.gh _ _ hp), atI_nat (j := 2) rfl, l1, ca, _, _, rfl, rfl, l3, x3.gh _ _ hca, ?_, fun l2 hl2 => ?_⟩)⟩
    · simp only [List.length_append, List.length_map]
      exact few (by (first | lia | omega))
    refine q _ _ _ (x3.put hl2) (.lst upd_same ?_)
    have e : (R.lanes.map (·.1)).map V.int ++ (R.lanes.map (·.2)).map V.int ++ R.coops.map V.int = (numsR R).map V.int := by
      unfold numsR
      rw [List.map_append, List.map_append]
    rw [e]
    exact AtAll.ints _
def spTwice : Sp := fun vs H Q _ => ∃ (p : Addr), vs = [.ref p] ∧ ((∃ (xs : List V) (keys : List (List Key)), H p = some (.lst xs) ∧ Paired (KeyAt H) xs keys ∧ keys.length ≤ 64 ∧ ∀ H', Same H H' → Q (.bl (decide (¬ keys.Nodup))) H') ∨ ∃ ns : List Int, H p = some (.lst (ns.map V.int)) ∧ ns.length ≤ 64 ∧ ∀ H', Same H H' → Q (.bl (decide (¬ ns.Nodup))) H')
theorem scTwice : FnScope ["parts"] ["parts"] (defScope sTwice) := ⟨rfl, rfl, rfl, by decide +kernel, rfl, by decide +kernel, by decide +kernel⟩
theorem ok_twice {f : Addr} {fd : FuncData} (F : Fun K "holds_twice" "holds_twice" sTwice f fd) (T : Txt mg) : FnOk P w K mg base CX0 1 f fd ["parts"] spTwice := by
  refine F.ok scTwice (fun vs H Q E h => ?_) (fun cdv A outer s H vs Q E hr h => ?_)
  · obtain ⟨p, rfl, _⟩ := h
    rfl
  · obtain ⟨p, rfl, hd⟩ := h
    refine ⟨_, (pss_one (ps_ret (pe_cmpR op_lt (pe_callB call_lenS rfl T.n_len b_len (pa_cons (pe_callTy (CallR.or2 (call_setT2 rfl hr) (call_setI2 rfl)) rfl T.n_set b_set (pa_cons (pv 0) pa_nil)) pa_nil)) (pe_callB (len_K (K := K) rfl) rfl T.n_len b_len (pa_cons (pv 0) pa_nil)) (nomark _)))), ?_⟩
    rcases hd with ⟨xs, keys, hp, pk, hl, q⟩ | ⟨ns, hp, hl, q⟩
    · refine ⟨_, rfl, .inl ⟨p, xs, keys, rfl, hp, pk, hl, fun a ha => ?_⟩⟩
      have sm := same_upd (o := .ext (SetN a (dd keys).length)) ha
      have hdl : (dd keys).length ≤ keys.length := by have := dd_le keys []; simpa [dd] using this
      refine ⟨a, _, rfl, upd_same, by (first | lia | omega), _, rfl, p, _, rfl, .inl (SqL.of (sm _ _ hp)), _, _, rfl, rfl, ?_⟩
      have e : xs.length = keys.length := Paired.length pk
      show Q (.bl (decide (((dd keys).length : Int) < (xs.length : Int)))) _
      have ed : decide (((dd keys).length : Int) < (xs.length : Int)) = decide (¬ keys.Nodup) := by
        rw [e]
        exact decide_eq_decide.mpr (Int.ofNat_lt.trans (dd_lt keys))
      rw [ed]
      exact q _ sm
    · refine ⟨_, rfl, .inr ⟨p, ns, rfl, hp, hl, fun a ha => ?_⟩⟩
      have sm := same_upd (o := .ext (SetN a (dd ns).length)) ha
      have hdl : (dd ns).length ≤ ns.length := by have := dd_le ns []; simpa [dd] using this
      refine ⟨a, _, rfl, upd_same, by (first | lia | omega), _, rfl, p, _, rfl, .inl (SqL.of (sm _ _ hp)), _, _, rfl, rfl, ?_⟩
      show Q (.bl (decide (((dd ns).length : Int) < ((ns.map V.int).length : Int)))) _
      have ed : decide (((dd ns).length : Int) < ((ns.map V.int).length : Int)) = decide (¬ ns.Nodup) := by
        rw [List.length_map]
        exact decide_eq_decide.mpr (Int.ofNat_lt.trans (dd_lt ns))
      rw [ed]
      exact q _ sm
theorem keys_of_lanes {H : Hp} : ∀ {ls : List V} {lanes : List (Int × Int)}, AtAll H ls (lanes.map laneD) → Paired (KeyAt H) ls (lanes.map fun l => ([Sum.inl l.1, Sum.inl l.2] : List Key))
  | _, [], .nil => .nil
  | _, l :: r, .cons a t => by
    obtain ⟨c, rfl, hc⟩ := a.lane
    exact .cons ⟨c, rfl, hc⟩ (keys_of_lanes t)
theorem lane_keys_nodup {lanes : List (Int × Int)} (h : lanes.Nodup) : (lanes.map fun l => ([Sum.inl l.1, Sum.inl l.2] : List Key)).Nodup := by
  unfold List.Nodup
  rw [List.pairwise_map]
  refine List.Pairwise.imp ?_ h
  intro a b hab e
  apply hab
  injection e with e1 e2
  injection e2 with e2 _
  injection e1 with e1
  injection e2 with e2
  exact Prod.ext e1 e2
theorem lane_keys_iff {lanes : List (Int × Int)} : (lanes.map fun l => ([Sum.inl l.1, Sum.inl l.2] : List Key)).Nodup ↔ lanes.Nodup := by
  refine ⟨fun h => ?_, lane_keys_nodup⟩
  unfold List.Nodup at h
  rw [List.pairwise_map] at h
  refine List.Pairwise.imp ?_ h
  rintro a b hab rfl
  exact hab rfl
def spCheck (CY CB CT : Addr) : Sp := fun vs H Q E => ∃ (G : Hp) (b : V) (R : Raw), vs = [b] ∧ Same G H ∧ At G b (rawD R) ∧ SmallR R ∧ (∀ H', Same H H' → fltR R = none → Q .non H') ∧ (∀ H' f, Same H H' → fltR R = some f → E (.ref (clsF CY CB CT f)) none H')
theorem scCheck : FnScope ["board", "count", "number"] ["board"] (defScope sCheck) := ⟨rfl, rfl, rfl, by decide +kernel, rfl, by decide +kernel, by decide +kernel⟩
theorem ok_check {f : Addr} {fd : FuncData} (F : Fun K "check_board" "check_board" sCheck f fd) (T : Txt mg) (L_NoYards : Kls K mg "NoYards") (L_BadYard : Kls K mg "BadYard") (L_TwiceTold : Kls K mg "TwiceTold") (C_numbers_told : Cal P w K mg base 1 "numbers_told" ["board"] spNums) (C_holds_twice : Cal P w K mg base 1 "holds_twice" ["parts"] spTwice) :
    FnOk P w K mg base (CX1 P w) 2 f fd ["board"] (spCheck L_NoYards.C L_BadYard.C L_TwiceTold.C) := by
  refine fun_okX F scCheck (fun vs H Q E h => ?_) (fun cdv A outer s H vs Q E hr h => ?_)
  · obtain ⟨G, b, R, rfl, _⟩ := h
    rfl
  · obtain ⟨G, b, R, rfl, hG, hb, sm, q, qe⟩ := h
    have hr_ : ∀ {j : Nat}, j ≤ 1 → Room j _ := fun h => hr.mono h
    obtain ⟨p, la, ca, ls, rfl, hp, hla, als, hca⟩ := hb.raw
    have hl63 := sm.l
    have hk20 := sm.k
    refine ⟨_, (pss_cons (ps_set (i := 1) scCheck.nd rfl (Or.inl rfl) (pe_ix (ix_K (K := K) rfl) (pv 0) pe_int (fun _ _ => rfl)))
      (pss_cons (ps_if (pt_cmpR op_lt (pv 1) pe_int (nomark _))
       (pss_one (ps_raise rfl L_NoYards.mg L_NoYards.ex))
       pss_nil)
      (pss_cons (ps_for own1 rfl (pi_K (K := K) rfl (pe_call C_numbers_told.ok (hr_ (by decide)) rfl C_numbers_told.mg C_numbers_told.kp C_numbers_told.b .nil pass0 (pa_cons (pv 0) pa_nil))) (pg_name (i := 2) scCheck.nd rfl (Or.inl rfl))
       (pss_one (ps_if (PW.pt (pw_or (pt_cmpR op_lt (pv 2) pe_int (nomark _)) (pw_or1 (pt_cmpR op_ge (pv 2) (pv 1) (nomark _)))))
         (pss_one (ps_raise rfl L_BadYard.mg L_BadYard.ex))
         pss_nil)))
      (pss_cons (ps_if (pt_val (pe_call C_holds_twice.ok (hr_ (by decide)) rfl C_holds_twice.mg C_holds_twice.kp C_holds_twice.b .nil pass0 (pa_cons (pe_ix (ix_K (K := K) rfl) (pv 0) pe_int (fun _ _ => rfl)) pa_nil)))
       (pss_one (ps_raise rfl L_TwiceTold.mg L_TwiceTold.ex))
       pss_nil)
      (pss_one (ps_if (pt_val (pe_call C_holds_twice.ok (hr_ (by decide)) rfl C_holds_twice.mg C_holds_twice.kp C_holds_twice.b .nil pass0 (pa_cons (pe_ix (ix_K (K := K) rfl) (pv 0) pe_int (fun _ _ => rfl)) pa_nil)))
       (pss_one (ps_raise rfl L_TwiceTold.mg L_TwiceTold.ex))
       pss_nil)))))), ?_⟩
    refine ⟨_, rfl, .inr (.inl ⟨p, _, 0, .int R.c, rfl, rfl, SqT.of (hG _ _ hp), atI_nat (j := 0) rfl, ?_⟩)⟩
    refine ⟨_, rfl, _, _, rfl, rfl, _, rfl, ?_⟩
    by_cases c1 : R.c < 1
    · rw [decide_eq_true c1]
      exact iteT (qe _ .yards (Same.refl _) (flt_yards c1))
    rw [decide_eq_false c1]
    refine iteF ?_
    -- the loop
    refine ⟨_, rfl, G, .ref p, R, rfl, hG, hb, hl63, by (first | lia | omega), fun G1 H1 r x1 ar => ?_⟩
    obtain ⟨na, xs, rfl, hna, anx⟩ : ∃ na xs, r = .ref na ∧ G1 na = some (.lst xs) ∧ AtAll G1 xs ((numsR R).map PyData.int) := by
      cases ar with
      | lst e t => exact ⟨_, _, rfl, e, t⟩
    have exs := anx.ints_of
    subst exs
    refine ⟨na, rfl, ⟨_, SqL.of (x1.gh _ _ hna)⟩, ?_⟩
    refine for_list (xs := (numsR R).map V.int) (fun i σ H' => ∃ v, σ = [some (.ref p), some (.int R.c), v] ∧ H' = H1 ∧ ∀ z ∈ (numsR R).take i, ¬ outR R.c z = true) ⟨none, rfl, rfl, fun z hz => nomatch hz⟩ ?_ ?_ ?_
    · rintro i σ H' hi ⟨v, rfl, rfl, _⟩
      exact SqL.of (x1.gh _ _ hna)
    · rintro i x σ H' hx ⟨v, rfl, rfl, hok⟩
      rw [List.getElem?_map] at hx
      cases e : (numsR R)[i]? with
      | none => rw [e] at hx; cases hx
      | some z =>
        rw [e] at hx
        have hx : V.int z = x := Option.some.inj hx
        subst hx
        have hm := List.mem_of_getElem? e
        refine ⟨_, rfl, _, _, rfl, rfl, _, rfl, ?_⟩
        by_cases c2 : z < 0
        · rw [decide_eq_true c2]
          exact iteT (iteT (qe _ .bad x1.hh (flt_bad c1 hm (by unfold outR; rw [decide_eq_true c2]; rfl))))
        rw [decide_eq_false c2]
        refine iteF ⟨_, rfl, _, rfl, _, _, rfl, rfl, _, rfl, ?_⟩
        by_cases c3 : R.c ≤ z
        · rw [decide_eq_true c3]
          exact iteT (qe _ .bad x1.hh (flt_bad c1 hm (by unfold outR; rw [decide_eq_true c3, Bool.or_true])))
        rw [decide_eq_false c3]
        refine iteF ⟨_, rfl, rfl, fun y hy => ?_⟩
        rw [List.take_add_one, e] at hy
        rcases List.mem_append.mp hy with y2 | y2
        · exact hok y y2
        · have y2 : y = z := List.mem_singleton.mp y2
          subst y2
          unfold outR
          rw [decide_eq_false c2, decide_eq_false c3]
          exact fun z => nomatch z
    rintro σ H' ⟨v, rfl, rfl, hok⟩
    rw [List.length_map, List.take_length] at hok
    have er := flt_rest c1 hok
    -- holds_twice(board[1])
    have als1 := (als.mono x1.gg).mono x1.gh
    refine ⟨_, rfl, .inr (.inl ⟨p, _, 1, .ref la, rfl, rfl, SqT.of (x1.gh _ _ (x1.gg _ _ hp)), atI_nat (j := 1) rfl, la, rfl, .inl ⟨ls, _, x1.gh _ _ (x1.gg _ _ hla), keys_of_lanes als1, ?_, fun H2 s2 => ⟨_, rfl, ?_⟩⟩⟩)⟩
    · rw [List.length_map]
      (first | lia | omega)
    by_cases c4 : R.lanes.Nodup
    rotate_left
    · rw [decide_eq_true (show ¬ (R.lanes.map fun l => ([Sum.inl l.1, Sum.inl l.2] : List Key)).Nodup from fun z => c4 (lane_keys_iff.mp z))]
      exact iteT (qe _ .twice (x1.hh.trans s2) (by rw [er, if_neg fun z => c4 z.1]))
    rw [decide_eq_false (show ¬ ¬ (R.lanes.map fun l => ([Sum.inl l.1, Sum.inl l.2] : List Key)).Nodup from fun z => z (lane_keys_iff.mpr c4))]
    refine iteF ?_
    refine ⟨_, rfl, .inr (.inl ⟨p, _, 2, .ref ca, rfl, rfl, SqT.of (s2 _ _ (x1.gh _ _ (x1.gg _ _ hp))), atI_nat (j := 2) rfl, ca, rfl, .inr ⟨R.coops, s2 _ _ (x1.gh _ _ (x1.gg _ _ hca)), by (first | lia | omega), fun H3 s3 => ⟨_, rfl, ?_⟩⟩⟩)⟩
    by_cases c5 : R.coops.Nodup
    rotate_left
    · rw [decide_eq_true c5]
      exact iteT (qe _ .twice (x1.hh.trans (s2.trans s3)) (by rw [er, if_neg fun z => c5 z.2]))
    rw [decide_eq_false (show ¬ ¬ R.coops.Nodup from fun z => z c5)]
    exact iteF (q _ (x1.hh.trans (s2.trans s3)) (by rw [er, if_pos ⟨c4, c5⟩]))

def spWays : Sp := fun vs H Q _ => ∃ (G : Hp) (b : V) (B : Brd) (y : Int), vs = [b, .int y] ∧ Same G H ∧ At G b (boardD B) ∧ B.lanes.length ≤ 61 ∧
  ∀ (G' H' : Hp) (r : V) (ms : List Int), Ext G H G' H' → ms.Perm (waysL B.lanes y) → ms.Pairwise (· ≤ ·) → At G' r (.list (ms.map .int)) → Q r H'
/-! ### ways_from -/
theorem scWays : FnScope ["board", "yard"] ["board", "yard"] (defScope sWays) := ⟨rfl, rfl, rfl, by decide +kernel, rfl, by decide +kernel, by decide +kernel⟩
theorem ok_ways {f : Addr} {fd : FuncData} (F : Fun K "ways_from" "ways_from" sWays f fd) (T : Txt mg) : FnOk P w K mg base CX0 1 f fd ["board", "yard"] spWays := by
  refine F.ok scWays (fun vs H Q E h => ?_) (fun cdv A outer s H vs Q E hr h => ?_)
  · obtain ⟨G, b, B, y, rfl, _⟩ := h
    rfl
  · obtain ⟨G, b, B, y, rfl, hG, hb, hlen, q⟩ := h
    obtain ⟨p, la, ca, ls, rfl, hp, hla, als, hca⟩ := hb.board
    refine ⟨_, (pss_one (ps_ret (pe_callB call_sorted rfl T.n_sorted b_sorted (pa_cons (pe_comp ["lane", "yard"] [none, some 1] rfl (cs_mk (N₀ := ["board", "yard"]) (sc := defScope sWays) (by decide +kernel)) (pi_K (K := K) rfl (pe_ix (ix_K (K := K) rfl) (pv 0) pe_int (fun _ _ => rfl))) (fun _ _ _ _ _ => (pg_name (i := 0) (show (["lane", "yard"] : List Str).Nodup from by decide +kernel) rfl (Or.inl rfl))) (fun _ _ _ _ _ => (pts_one (pt_cmpR op_eq (pe_ix (ix_K (K := K) rfl) (pv 0) pe_int (fun _ _ => rfl)) (pv 1) (nomark _)))) (fun _ _ _ _ _ => (pe_ix (ix_K (K := K) rfl) (pv 0) pe_int (fun _ _ => rfl)))) pa_nil)))), ?_⟩
    refine ⟨_, rfl, .inr (.inl ⟨p, _, 1, .ref la, rfl, rfl, SqT.of (hG _ _ hp), atI_nat (j := 1) rfl, la, rfl, ⟨ls, SqL.of (hG _ _ hla)⟩, fun D hD => ?_⟩)⟩
    have x0 := (Ext.refl hG).lay (o := .lst []) hD
    have w0 := Own.fresh (o := .lst []) (Ext.refl hG) hD
    have el : ls.length = B.lanes.length := by rw [als.length, List.length_map]
    refine comp_list (xs := ls) (fun i τ H' => ∃ v, τ = [v, some (.int y)] ∧ Ext G H G H' ∧ Own H G H' D (.lst ((waysL (B.lanes.take i) y).map V.int))) ⟨none, rfl, x0, w0⟩ ?_ ?_ ?_
    · rintro i τ H' hi ⟨v, rfl, x, w⟩
      exact SqL.of (x.gh _ _ hla)
    · rintro i x τ H' hx ⟨v, rfl, x1, w1⟩
      obtain ⟨d, hd, ad⟩ := als.get' hx
      rw [List.getElem?_map] at hd
      cases hl : B.lanes[i]? with
      | none => rw [hl] at hd; cases hd
      | some l =>
        rw [hl] at hd
        have hd : laneD l = d := Option.some.inj hd
        subst hd
        obtain ⟨c, rfl, hc⟩ := ad.lane
        have hc' := x1.gh _ _ hc
        refine ⟨_, rfl, .inr (.inl ⟨c, _, 0, .int l.1, rfl, rfl, SqT.of hc', atI_nat (j := 0) rfl, _, rfl, rfl, _, rfl, ?_⟩)⟩
        rw [decV]
        have wt := waysL_take (y := y) hl
        refine ite2 (fun e => ?_) (fun e => ?_)
        · have e : l.1 = y := of_decide_eq_true e
          refine ⟨_, rfl, .inr (.inl ⟨c, _, 1, .int l.2, rfl, rfl, SqT.of hc', atI_nat (j := 1) rfl, _, w1.is, ?_, _, rfl, w1.write x1, ?_⟩)⟩
          · rw [List.length_map]
            have := waysL_len (B.lanes.take i) y
            rw [List.length_take] at this
            exact small1000 (by (first | lia | omega))
          · rw [wt, if_pos e, List.map_append]
            exact w1.set
        · have e : ¬ l.1 = y := fun z => e (decide_eq_true z)
          refine ⟨_, rfl, x1, ?_⟩
          rw [wt, if_neg e, List.append_nil]
          exact w1
    · rintro τ H' ⟨v, rfl, x1, w1⟩
      rw [el, List.take_length] at w1
      refine ⟨D, waysL B.lanes y, rfl, w1.is, ?_, fun l ms hl hp hs => ?_⟩
      · have := waysL_len B.lanes y
        (first | lia | omega)
      · exact q _ _ _ ms (x1.put hl) hp hs (.lst upd_same (AtAll.ints ms))

/-! ### other_side, lanes_ahead, winner -/
def spOther : Sp := fun vs H Q _ => ∃ t : Bool, vs = [.str (sd t)] ∧ Q (.str (sd (!t))) H
theorem scOther : FnScope ["side"] ["side"] (defScope sOther) := ⟨rfl, rfl, rfl, by decide +kernel, rfl, by decide +kernel, by decide +kernel⟩
theorem ok_other {f : Addr} {fd : FuncData} (F : Fun K "other_side" "other_side" sOther f fd) (T : Txt mg) : FnOk P w K mg base CX0 1 f fd ["side"] spOther := by
  refine F.ok scOther (fun vs H Q E h => ?_) (fun cdv A outer s H vs Q E hr h => ?_)
  · obtain ⟨t, rfl, _⟩ := h
    rfl
  · obtain ⟨t, rfl, q⟩ := h
    refine ⟨_, (pss_one (ps_ret (pe_ifExp (pt_cmpR op_eq (pv 0) pe_str (nomark _)) pe_str pe_str))), ?_⟩
    refine ⟨_, rfl, rfl, _, rfl, ?_⟩
    rw [sd_fox]
    cases t
    · exact iteF q
    · exact iteT q
def spAhead : Sp := fun vs H Q _ => ∃ (G : Hp) (b v : V) (B : Brd) (p : Plc), vs = [b, v] ∧ Same G H ∧ At G b (boardD B) ∧ At G v (posD p) ∧ B.lanes.length ≤ 61 ∧
  ∀ (G' H' : Hp) (r : V), Ext G H G' H' → At G' r (.list ((waysS B p).map .int)) → Q r H'
theorem scAhead : FnScope ["board", "position"] ["board", "position"] (defScope sAhead) := ⟨rfl, rfl, rfl, by decide +kernel, rfl, by decide +kernel, by decide +kernel⟩
theorem ok_ahead {f : Addr} {fd : FuncData} (F : Fun K "lanes_ahead" "lanes_ahead" sAhead f fd) (T : Txt mg) (C_ways_from : Cal P w K mg base 1 "ways_from" ["board", "yard"] spWays) :
    FnOk P w K mg base CX0 2 f fd ["board", "position"] spAhead := by
  refine F.ok scAhead (fun vs H Q E h => ?_) (fun cdv A outer s H vs Q E hr h => ?_)
  · obtain ⟨G, b, v, B, p, rfl, _⟩ := h
    rfl
  · obtain ⟨G, b, v, B, p, rfl, hG, hb, hv, hlen, q⟩ := h
    have hr_ : ∀ {j : Nat}, j ≤ 1 → Room j _ := fun h => hr.mono h
    obtain ⟨a, rfl, ha⟩ := hv.pos
    have ha1 := hG _ _ ha
    refine ⟨_, (pss_one (ps_ret (pe_call C_ways_from.ok (hr_ (by decide)) rfl C_ways_from.mg C_ways_from.kp C_ways_from.b .nil pass0 (pa_cons (pv 0) (pa_cons (pe_ifExp (pt_cmpR op_eq (pe_ix (ix_K (K := K) rfl) (pv 1) pe_int (fun _ _ => rfl)) pe_str (nomark _)) (pe_ix (ix_K (K := K) rfl) (pv 1) pe_int (fun _ _ => rfl)) (pe_ix (ix_K (K := K) rfl) (pv 1) pe_int (fun _ _ => rfl))) pa_nil))))), ?_⟩
    refine ⟨_, rfl, _, rfl, .inr (.inl ⟨a, _, 2, .str (sd p.t), rfl, rfl, SqT.of ha1, atI_nat (j := 2) rfl, rfl, _, rfl, ?_⟩)⟩
    rw [sd_fox]
    refine ite2 (fun e => ?_) (fun e => ?_)
    · refine ⟨_, rfl, .inr (.inl ⟨a, _, 0, .int p.f, rfl, rfl, SqT.of ha1, atI_nat (j := 0) rfl, G, b, B, p.f, rfl, hG, hb, hlen, fun G' H' r ms x hp hs ar => ?_⟩)⟩
      have ey : yardOf p = p.f := if_pos e
      have em : ms = waysS B p := by
        have := srt_of hp hs
        rw [this]
        unfold waysS waysB
        rw [ey]
      rw [em] at ar
      exact q _ _ _ x ar
    · refine ⟨_, rfl, .inr (.inl ⟨a, _, 1, .int p.h, rfl, rfl, SqT.of ha1, atI_nat (j := 1) rfl, G, b, B, p.h, rfl, hG, hb, hlen, fun G' H' r ms x hp hs ar => ?_⟩)⟩
      have ey : yardOf p = p.h := if_neg e
      have em : ms = waysS B p := by
        have := srt_of hp hs
        rw [this]
        unfold waysS waysB
        rw [ey]
      rw [em] at ar
      exact q _ _ _ x ar
def spWinner : Sp := fun vs H Q _ => ∃ (G : Hp) (b v : V) (B : Brd) (p : Plc), vs = [b, v] ∧ Same G H ∧ At G b (boardD B) ∧ At G v (posD p) ∧ B.lanes.length ≤ 61 ∧ ∀ H', Same H H' → Q (wV (winAt B p)) H'
theorem scWinner : FnScope ["board", "position"] ["board", "position"] (defScope sWinner) := ⟨rfl, rfl, rfl, by decide +kernel, rfl, by decide +kernel, by decide +kernel⟩
theorem ok_winner {f : Addr} {fd : FuncData} (F : Fun K "winner" "winner" sWinner f fd) (T : Txt mg) (C_lanes_ahead : Cal P w K mg base 2 "lanes_ahead" ["board", "position"] spAhead)
    (C_other_side : Cal P w K mg base 1 "other_side" ["side"] spOther) : FnOk P w K mg base CX0 3 f fd ["board", "position"] spWinner := by
  refine F.ok scWinner (fun vs H Q E h => ?_) (fun cdv A outer s H vs Q E hr h => ?_)
  · obtain ⟨G, b, v, B, p, rfl, _⟩ := h
    rfl
  · obtain ⟨G, b, v, B, p, rfl, hG, hb, hv, hlen, q⟩ := h
    have hr_ : ∀ {j : Nat}, j ≤ 2 → Room j _ := fun h => hr.mono h
    obtain ⟨c, la, ca, ls, rfl, hc, hla, als, hca⟩ := hb.board
    obtain ⟨a, rfl, ha⟩ := hv.pos
    have ha1 := hG _ _ ha
    refine ⟨_, (pss_cons (ps_if (pt_cmpR op_eq (pe_ix (ix_K (K := K) rfl) (pv 1) pe_int (fun _ _ => rfl)) (pe_ix (ix_K (K := K) rfl) (pv 1) pe_int (fun _ _ => rfl)) (nomark _))
       (pss_one (ps_ret pe_str))
       pss_nil)
      (pss_cons (ps_if (pt_cmpR (op_inD hr) (pe_ix (ix_K (K := K) rfl) (pv 1) pe_int (fun _ _ => rfl)) (pe_ix (ix_K (K := K) rfl) (pv 0) pe_int (fun _ _ => rfl)) (by with_unfolding_all rfl))
       (pss_one (ps_ret pe_str))
       pss_nil)
      (pss_cons (ps_if (pt_not (pt_list (K := K) rfl (pe_call C_lanes_ahead.ok (hr_ (by decide)) rfl C_lanes_ahead.mg C_lanes_ahead.kp C_lanes_ahead.b .nil pass0 (pa_cons (pv 0) (pa_cons (pv 1) pa_nil)))))
       (pss_one (ps_ret (pe_call C_other_side.ok (hr_ (by decide)) rfl C_other_side.mg C_other_side.kp C_other_side.b .nil pass0 (pa_cons (pe_ix (ix_K (K := K) rfl) (pv 1) pe_int (fun _ _ => rfl)) pa_nil))))
       pss_nil)
      (pss_one (ps_ret pe_non))))), ?_⟩
    refine ⟨_, rfl, .inr (.inl ⟨a, _, 0, .int p.f, rfl, rfl, SqT.of ha1, atI_nat (j := 0) rfl, _, rfl, .inr (.inl ⟨a, _, 1, .int p.h, rfl, rfl, SqT.of ha1, atI_nat (j := 1) rfl, rfl, _, rfl, ?_⟩)⟩)⟩
    rw [decV]
    refine ite2 (fun e => ?_) (fun e => ?_)
    · have e : p.f = p.h := of_decide_eq_true e
      have ew : winAt B p = some true := by unfold winAt; rw [if_pos e]
      rw [ew] at q
      exact q H (Same.refl _)
    have e : ¬ p.f = p.h := fun z => e (decide_eq_true z)
    -- in coops
    refine ⟨_, rfl, .inr (.inl ⟨a, _, 1, .int p.h, rfl, rfl, SqT.of ha1, atI_nat (j := 1) rfl, _, rfl, .inr (.inl ⟨c, _, 2, .ref ca, rfl, rfl, SqT.of (hG _ _ hc), atI_nat (j := 2) rfl, _, _, .int p.h, .inl (.lst (hG _ _ hca) (AtAll.ints B.coops)), by show 0 ≤ 60; decide, _, rfl, ?_⟩)⟩)⟩
    rw [if_neg Bool.false_ne_true, any_int]
    refine ite2 (fun e2 => ?_) (fun e2 => ?_)
    · have e2 : p.h ∈ B.coops := of_decide_eq_true e2
      have ew : winAt B p = some false := by unfold winAt; rw [if_neg e, if_pos e2]
      rw [ew] at q
      exact q H (Same.refl _)
    have e2 : ¬ p.h ∈ B.coops := fun z => e2 (decide_eq_true z)
    -- no way
    refine ⟨_, rfl, _, rfl, G, .ref c, .ref a, B, p, rfl, hG, hb, hv, hlen, fun G1 H1 r x1 ar => ?_⟩
    cases ar with
    | lst er tr =>
    rename_i ra xs
    have exs := tr.ints_of
    subst exs
    refine ⟨ra, _, rfl, SqL.of (x1.gh _ _ er), ?_⟩
    have ee : (!(!(((waysS B p).map V.int).isEmpty))) = decide (waysB B p = []) := by
      have hl := srt_len (waysB B p)
      have hl : (waysS B p).length = (waysB B p).length := hl
      cases e1 : waysS B p with
      | nil =>
        rw [e1] at hl
        rw [decide_eq_true (List.eq_nil_of_length_eq_zero hl.symm)]
        rfl
      | cons z r =>
        rw [e1] at hl
        rw [decide_eq_false (fun y => by rw [y] at hl; simp at hl)]
        rfl
    show if (!(!(((waysS B p).map V.int).isEmpty))) = true then _ else _
    rw [ee]
    refine ite2 (fun e3 => ?_) (fun e3 => ?_)
    · have e3 : waysB B p = [] := of_decide_eq_true e3
      have ew : winAt B p = some (!p.t) := by unfold winAt; rw [if_neg e, if_neg e2, if_pos e3]
      rw [ew] at q
      exact ⟨_, rfl, .inr (.inl ⟨a, _, 2, .str (sd p.t), rfl, rfl, SqT.of (x1.hh _ _ ha1), atI_nat (j := 2) rfl, p.t, rfl, q _ x1.hh⟩)⟩
    · have e3 : ¬ waysB B p = [] := fun z => e3 (decide_eq_true z)
      have ew : winAt B p = none := by unfold winAt; rw [if_neg e, if_neg e2, if_neg e3]
      rw [ew] at q
      exact q _ x1.hh

/-! ### moved -/
def spMoved : Sp := fun vs H Q _ => ∃ (G : Hp) (v : V) (p : Plc) (y : Int), vs = [v, .int y] ∧ Same G H ∧ At G v (posD p) ∧ ∀ (G' H' : Hp) (r : V), Ext G H G' H' → At G' r (posD (nxt p y)) → Q r H'
theorem scMoved : FnScope ["position", "yard"] ["position", "yard"] (defScope sMoved) := ⟨rfl, rfl, rfl, by decide +kernel, rfl, by decide +kernel, by decide +kernel⟩
theorem ok_moved {f : Addr} {fd : FuncData} (F : Fun K "moved" "moved" sMoved f fd) (T : Txt mg) : FnOk P w K mg base CX0 1 f fd ["position", "yard"] spMoved := by
  refine F.ok scMoved (fun vs H Q E h => ?_) (fun cdv A outer s H vs Q E hr h => ?_)
  · obtain ⟨G, v, p, y, rfl, _⟩ := h
    rfl
  · obtain ⟨G, v, p, y, rfl, hG, hv, q⟩ := h
    obtain ⟨a, rfl, ha⟩ := hv.pos
    have ha1 := hG _ _ ha
    refine ⟨_, (pss_cons (ps_if (pt_cmpR op_eq (pe_ix (ix_K (K := K) rfl) (pv 0) pe_int (fun _ _ => rfl)) pe_str (nomark _))
       (pss_one (ps_ret (pe_tup (pa_cons (pv 1) (pa_cons (pe_ix (ix_K (K := K) rfl) (pv 0) pe_int (fun _ _ => rfl)) (pa_cons pe_str pa_nil))))))
       pss_nil)
      (pss_one (ps_ret (pe_tup (pa_cons (pe_ix (ix_K (K := K) rfl) (pv 0) pe_int (fun _ _ => rfl)) (pa_cons (pv 1) (pa_cons pe_str pa_nil))))))), ?_⟩
    refine ⟨_, rfl, .inr (.inl ⟨a, _, 2, .str (sd p.t), rfl, rfl, SqT.of ha1, atI_nat (j := 2) rfl, rfl, _, rfl, ?_⟩)⟩
    rw [sd_fox]
    refine ite2 (fun e => ?_) (fun e => ?_)
    · have en : nxt p y = ⟨y, p.h, false⟩ := by unfold nxt; rw [if_pos e]
      rw [en] at q
      refine ⟨_, rfl, _, rfl, .inr (.inl ⟨a, _, 1, .int p.h, rfl, rfl, SqT.of ha1, atI_nat (j := 1) rfl, few (by show 3 ≤ 1000; decide), fun c hc => ?_⟩)⟩
      exact q _ _ _ ((Ext.refl hG).put hc) (pos_at (p := ⟨y, p.h, false⟩) upd_same)
    · have en : nxt p y = ⟨p.f, y, true⟩ := by unfold nxt; rw [if_neg e]
      rw [en] at q
      refine ⟨_, rfl, .inr (.inl ⟨a, _, 0, .int p.f, rfl, rfl, SqT.of ha1, atI_nat (j := 0) rfl, _, rfl, few (by show 3 ≤ 1000; decide), fun c hc => ?_⟩)⟩
      exact q _ _ _ ((Ext.refl hG).put hc) (pos_at (p := ⟨p.f, y, true⟩) upd_same)
/-! ### positions_of -/
def spPositions : Sp := fun vs H Q _ => ∃ (G : Hp) (b : V) (B : Brd), vs = [b] ∧ Same G H ∧ At G b (boardD B) ∧ Good B ∧
  ∀ (G' H' : Hp) (r : V), Ext G H G' H' → At G' r (.list ((allPos B.n).map posD)) → Q r H'
theorem scPositions : FnScope ["board", "found", "fox", "hen"] ["board"] (defScope sPositions) := ⟨rfl, rfl, rfl, by decide +kernel, rfl, by decide +kernel, by decide +kernel⟩
structure PosAt (B : Brd) (G H G1 H1 : Hp) (fa : Addr) (k : Nat) : Prop where
  x : Ext G H G1 H1
  l : ∃ xs, Own H G1 H1 fa (.lst xs) ∧ AtAll G1 xs (((allPos B.n).take k).map posD)
theorem ok_positions {f : Addr} {fd : FuncData} (F : Fun K "positions_of" "positions_of" sPositions f fd) (T : Txt mg) : FnOk P w K mg base CX0 1 f fd ["board"] spPositions := by
  refine F.ok scPositions (fun vs H Q E h => ?_) (fun cdv A outer s H vs Q E hr h => ?_)
  · obtain ⟨G, b, B, rfl, _⟩ := h
    rfl
  · obtain ⟨G, b, B, rfl, hG, hb, g, q⟩ := h
    obtain ⟨p, la, ca, ls, rfl, hp, hla, als, hca⟩ := hb.board
    have hn1 := g.pos
    have hn7 := g.few
    have f98 := few98 g
    refine ⟨_, (pss_cons (ps_set (i := 1) scPositions.nd rfl (Or.inl rfl) (pe_lst pa_nil))
      (pss_cons (ps_for PassesOwn.never rfl (pi_range1 rfl T.n_range (pa_cons (pe_ix (ix_K (K := K) rfl) (pv 0) pe_int (fun _ _ => rfl)) pa_nil)) (pg_name (i := 2) scPositions.nd rfl (Or.inl rfl))
       (pss_one (ps_for PassesOwn.never rfl (pi_range1 rfl T.n_range (pa_cons (pe_ix (ix_K (K := K) rfl) (pv 0) pe_int (fun _ _ => rfl)) pa_nil)) (pg_name (i := 3) scPositions.nd rfl (Or.inl rfl))
         (pss_cons (ps_expr (append_K (K := K) rfl (pv 1) (pa_cons (pe_tup (pa_cons (pv 2) (pa_cons (pv 3) (pa_cons pe_str pa_nil)))) pa_nil)))
          (pss_one (ps_expr (append_K (K := K) rfl (pv 1) (pa_cons (pe_tup (pa_cons (pv 2) (pa_cons (pv 3) (pa_cons pe_str pa_nil)))) pa_nil))))))))
      (pss_one (ps_ret (pv 1))))), ?_⟩
    refine ⟨by decide, fun fa hfa => ?_⟩
    have x1 := (Ext.refl hG).lay (o := .lst []) hfa
    have w1 := Own.fresh (o := .lst []) (Ext.refl hG) hfa
    generalize upd H fa (.lst []) = H1 at x1 w1
    refine ⟨_, rfl, .inr (.inl ⟨p, _, 0, .int B.n, rfl, rfl, SqT.of (x1.gh _ _ hp), atI_nat (j := 0) rfl, (B.n : Int), rfl, by (first | lia | omega), by (first | lia | omega), ?_⟩)⟩
    rw [Int.toNat_natCast]
    refine for_range (lo := 0) (n := B.n) (fun i σ H' => ∃ (v2 v3 : Option V) (G1 : Hp), σ = [some (.ref p), some (.ref fa), v2, v3] ∧ PosAt B G H G1 H' fa (i * (2 * B.n))) ⟨none, none, G, rfl, x1, [], w1, by rw [Nat.zero_mul]; exact .nil⟩ ?_ ?_
    · rintro i σ H2 hi ⟨v2, v3, G1, rfl, x2, xs, w2, ax⟩
      have ei : ((0 : Int) + (i : Int)) = (i : Int) := by (first | lia | omega)
      show _
      rw [ei]
      refine ⟨_, rfl, .inr (.inl ⟨p, _, 0, .int B.n, rfl, rfl, SqT.of (x2.gh _ _ (x2.gg _ _ hp)), atI_nat (j := 0) rfl, (B.n : Int), rfl, by (first | lia | omega), by (first | lia | omega), ?_⟩)⟩
      rw [Int.toNat_natCast]
      refine for_range (lo := 0) (n := B.n) (fun j σ H' => ∃ (v3 : Option V) (G1 : Hp), σ = [some (.ref p), some (.ref fa), some (.int (i : Int)), v3] ∧ PosAt B G H G1 H' fa (i * (2 * B.n) + 2 * j)) ⟨_, G1, rfl, x2, xs, w2, by rw [Nat.mul_zero, Nat.add_zero]; exact ax⟩ ?_ ?_
      · rintro j σ H3 hj ⟨v3', G3, rfl, x3, ys, w3, ay⟩
        have ej : ((0 : Int) + (j : Int)) = (j : Int) := by (first | lia | omega)
        show _
        rw [ej]
        obtain ⟨hlt, ea, eb⟩ := pos_two hi hj
        have hk : i * (2 * B.n) + 2 * j < 2 * B.n * B.n := by (first | lia | omega)
        have hlen : ys.length ≤ 98 := by
          rw [ay.length, List.length_map, List.length_take]
          (first | lia | omega)
        -- the fox's turn
        refine ⟨_, rfl, tyL w3.is, _, rfl, _, rfl, few (by show 3 ≤ 1000; decide), fun c hc => ?_⟩
        have x4 := x3.put (o := .tup [.int (i : Int), .int (j : Int), .str "fox"]) hc
        have w4 := w3.put (u := .tup [.int (i : Int), .int (j : Int), .str "fox"]) hc
        have s4 : Same G3 (upd G3 c (.tup [.int (i : Int), .int (j : Int), .str "fox"])) := same_upd (x3.gh.free hc)
        have a4 : At (upd G3 c (.tup [.int (i : Int), .int (j : Int), .str "fox"])) (.ref c) (posD ⟨i, j, true⟩) := pos_at (p := ⟨i, j, true⟩) upd_same
        refine ⟨fa, ys, .ref c, rfl, rfl, w4.is, small1000 (by (first | lia | omega)), ?_⟩
        have x5 := w4.write (u := .lst (ys ++ [.ref c])) x4
        have w5 := w4.set (u := .lst (ys ++ [.ref c]))
        have ay5 : AtAll (upd G3 c (.tup [.int (i : Int), .int (j : Int), .str "fox"])) (ys ++ [.ref c]) (((allPos B.n).take (i * (2 * B.n) + 2 * j + 1)).map posD) := by
          rw [allPos_take hk, ea, List.map_append]
          exact (ay.mono s4).append (.one a4)
        generalize upd (upd H3 c (.tup [.int (i : Int), .int (j : Int), .str "fox"])) fa (.lst (ys ++ [.ref c])) = H5 at x5 w5
        generalize upd G3 c (.tup [.int (i : Int), .int (j : Int), .str "fox"]) = G5 at x5 w5 ay5
        -- the hen's turn
        refine ⟨_, rfl, tyL w5.is, _, rfl, _, rfl, few (by show 3 ≤ 1000; decide), fun d hd => ?_⟩
        have x6 := x5.put (o := .tup [.int (i : Int), .int (j : Int), .str "hen"]) hd
        have w6 := w5.put (u := .tup [.int (i : Int), .int (j : Int), .str "hen"]) hd
        have s6 : Same G5 (upd G5 d (.tup [.int (i : Int), .int (j : Int), .str "hen"])) := same_upd (x5.gh.free hd)
        have a6 : At (upd G5 d (.tup [.int (i : Int), .int (j : Int), .str "hen"])) (.ref d) (posD ⟨i, j, false⟩) := pos_at (p := ⟨i, j, false⟩) upd_same
        refine ⟨fa, ys ++ [.ref c], .ref d, rfl, rfl, w6.is, small1000 (by rw [List.length_append]; show ys.length + 1 ≤ 1000; (first | lia | omega)), ?_⟩
        refine ⟨_, _, rfl, w6.write x6, _, w6.set, ?_⟩
        rw [show i * (2 * B.n) + 2 * (j + 1) = i * (2 * B.n) + 2 * j + 1 + 1 by (first | lia | omega), allPos_take hlt, eb, List.map_append]
        exact (ay5.mono s6).append (.one a6)
      · rintro σ H3 ⟨v3', G3, rfl, P3⟩
        refine ⟨_, _, G3, rfl, ?_⟩
        rw [show (i + 1) * (2 * B.n) = i * (2 * B.n) + 2 * B.n by rw [Nat.succ_mul]]
        exact P3
    · rintro σ H3 ⟨v2, v3, G3, rfl, x3, ys, w3, ay⟩
      rw [show B.n * (2 * B.n) = (allPos B.n).length by rw [allPos_len, Nat.mul_comm], List.take_length] at ay
      exact ⟨_, rfl, q _ _ _ (w3.join x3) (.lst upd_same (ay.mono (same_upd w3.apart)))⟩

/-! ### ended_positions -/
def spEnded : Sp := fun vs H Q _ => ∃ (G : Hp) (b : V) (B : Brd), vs = [b] ∧ Same G H ∧ At G b (boardD B) ∧ Good B ∧
  ∀ (G' H' : Hp) (ka : Addr) (kvs : List (List Key × V)) (ps : List Plc), Ext G H G' H' → Own H G' H' ka (.dT kvs) → Tells G' kvs ps (kQ B 0) → Q (.ref ka) H'
theorem scEnded : FnScope ["board", "ended", "position", "side"] ["board"] (defScope sEnded) := ⟨rfl, rfl, rfl, by decide +kernel, rfl, by decide +kernel, by decide +kernel⟩
structure EndAt (B : Brd) (G H G1 H1 : Hp) (ka : Addr) (i : Nat) : Prop where
  x : Ext G H G1 H1
  k : ∃ kvs ps, Own H G1 H1 ka (.dT kvs) ∧ Tells G1 kvs ps (fun q => if q ∈ (allPos B.n).take i then Kn (gameOf B) 0 q else none)
theorem ok_ended {f : Addr} {fd : FuncData} (F : Fun K "ended_positions" "ended_positions" sEnded f fd) (T : Txt mg) (C_positions_of : Cal P w K mg base 1 "positions_of" ["board"] spPositions)
    (C_winner : Cal P w K mg base 3 "winner" ["board", "position"] spWinner) : FnOk P w K mg base CX0 4 f fd ["board"] spEnded := by
  refine F.ok scEnded (fun vs H Q E h => ?_) (fun cdv A outer s H vs Q E hr h => ?_)
  · obtain ⟨G, b, B, rfl, _⟩ := h
    rfl
  · obtain ⟨G, b, B, rfl, hG, hb, g, q⟩ := h
    have hr_ : ∀ {j : Nat}, j ≤ 3 → Room j _ := fun h => hr.mono h
    have np := allPos_nodup B.n
    refine ⟨_, (pss_cons (ps_set (i := 1) scEnded.nd rfl (Or.inl rfl) pe_dnewT)
      (pss_cons (ps_for PassesOwn.never rfl (pi_K (K := K) rfl (pe_call C_positions_of.ok (hr_ (by decide)) rfl C_positions_of.mg C_positions_of.kp C_positions_of.b .nil pass0 (pa_cons (pv 0) pa_nil))) (pg_name (i := 2) scEnded.nd rfl (Or.inl rfl))
       (pss_cons (ps_set (i := 3) scEnded.nd rfl (Or.inl rfl) (pe_call C_winner.ok (hr_ (by decide)) rfl C_winner.mg C_winner.kp C_winner.b .nil pass0 (pa_cons (pv 0) (pa_cons (pv 2) pa_nil))))
        (pss_one (ps_if (pt_cmp (pc_notN (pv 3)))
         (pss_one (ps_dput (hu_of hr) (pv 1) (pv 2) (pe_tup (pa_cons (pv 3) (pa_cons pe_int pa_nil))) rfl))
         pss_nil))))
      (pss_one (ps_ret (pv 1))))), ?_⟩
    intro ka hka
    have x1 := (Ext.refl hG).lay (o := .dT []) hka
    have k1 := Own.fresh (o := .dT []) (Ext.refl hG) hka
    generalize upd H ka (.dT []) = H1 at x1 k1
    refine ⟨_, rfl, G, b, B, rfl, x1.gh, hb, g, fun G2 H2 r x2 ar => ?_⟩
    cases ar with
    | lst hna al =>
    rename_i na lv
    have el : lv.length = (allPos B.n).length := by rw [al.length, List.length_map]
    have k2 := k1.ext x2
    refine ⟨na, rfl, ⟨_, SqL.of (x2.gh _ _ hna)⟩, ?_⟩
    refine for_list (xs := lv) (fun i σ H' => ∃ (v2 v3 : Option V) (G3 : Hp), σ = [some b, some (.ref ka), v2, v3] ∧ Same G2 G3 ∧ EndAt B G H G3 H' ka i) ⟨none, none, G2, rfl, Same.refl _, x1.trans x2, [], [], k2, tells_nil.congr fun p => by simp⟩ ?_ ?_ ?_
    · rintro i σ H' hi ⟨v2, v3, G3, rfl, s3, x3, _⟩
      exact SqL.of (x3.gh _ _ (s3 _ _ hna))
    · rintro i x σ H' hx ⟨v2, v3, G3, rfl, s3, x3, kvs, ps, k3, tl⟩
      obtain ⟨d, hd, ad⟩ := (al.mono s3).get' hx
      rw [List.getElem?_map] at hd
      cases hq : (allPos B.n)[i]? with
      | none => rw [hq] at hd; cases hd
      | some pl =>
        rw [hq] at hd
        have hd : posD pl = d := Option.some.inj hd
        subst hd
        obtain ⟨c, rfl, hc⟩ := ad.pos
        have hnew := take_new np hq
        refine ⟨_, rfl, _, rfl, G3, b, .ref c, B, pl, rfl, x3.gh, (hb.mono x3.gg), ad, g.len, fun H6 s6 => ?_⟩
        have x6 : Ext G H G3 H6 := ⟨x3.gg, x3.gh.trans s6, x3.hh.trans s6, x3.new⟩
        have k6 : Own H G3 H6 ka (.dT kvs) := ⟨k3.new, k3.apart, s6 _ _ k3.is⟩
        have e0 : Kn (gameOf B) 0 pl = (winAt B pl).map fun s => (s, 0) := rfl
        refine ⟨_, rfl, _, rfl, ?_⟩
        cases ew : winAt B pl with
        | none =>
          rw [ew] at e0
          have e0 : Kn (gameOf B) 0 pl = none := e0
          refine iteF ?_
          refine ⟨_, _, G3, rfl, s3, x6, kvs, ps, k6, tl.congr fun q => ?_⟩
          by_cases z : q = pl
          · subst z
            rw [if_neg hnew, if_pos ((take_mem hq _).mpr (.inl rfl)), e0]
          · by_cases z2 : q ∈ (allPos B.n).take i
            · rw [if_pos z2, if_pos ((take_mem hq _).mpr (.inr z2))]
            · rw [if_neg z2, if_neg (fun y => ((take_mem hq _).mp y).elim z z2)]
        | some t =>
          rw [ew] at e0
          have e0 : Kn (gameOf B) 0 pl = some (t, 0) := e0
          refine iteT ?_
          refine ⟨_, rfl, few (by show 2 ≤ 1000; decide), fun d hd => ?_⟩
          have x8 := x6.put (o := .tup [.str (sd t), .int 0]) hd
          have k8 := k6.put (u := .tup [.str (sd t), .int 0]) hd
          have s8 : Same G3 (upd G3 d (.tup [.str (sd t), .int 0])) := same_upd (x6.gh.free hd)
          have d8 : upd G3 d (.tup [.str (sd t), .int 0]) d = some (.tup [.str (sd t), .int 0]) := upd_same
          refine ⟨_, rfl, _, rfl, ka, _, rfl, DPut.t k8.is (k := posK pl) (x8.gh _ _ (s8 _ _ hc)) (tells_len tl (fun q hq2 => ?_) g), ?_⟩
          · by_cases z : q ∈ (allPos B.n).take i
            · exact List.mem_of_mem_take z
            · rw [if_neg z] at hq2
              cases hq2
          refine ⟨_, _, upd G3 d (.tup [.str (sd t), .int 0]), rfl, s3.trans s8, k8.write x8, _, ps ++ [pl], k8.set, ?_⟩
          have hps : pl ∉ ps := fun z => by
            have := (tl.has pl).mp z
            rw [if_neg hnew] at this
            cases this
          refine ((tl.mono s8).put (w := (t, 0)) hps (vd_at d8)).congr fun q => ?_
          by_cases z : q = pl
          · subst z
            rw [if_pos rfl, if_pos ((take_mem hq _).mpr (.inl rfl)), e0]
          · rw [if_neg z]
            by_cases z2 : q ∈ (allPos B.n).take i
            · rw [if_pos z2, if_pos ((take_mem hq _).mpr (.inr z2))]
            · rw [if_neg z2, if_neg (fun y => ((take_mem hq _).mp y).elim z z2)]
    · rintro σ H' ⟨v2, v3, G3, rfl, s3, x3, kvs, ps, k3, tl⟩
      rw [el, List.take_length] at tl
      exact ⟨_, rfl, q _ _ _ _ ps x3 k3 (tl.congr fun p => rfl)⟩
/-! ### positions_behind -/
def spBehind : Sp := fun vs H Q _ => ∃ (G : Hp) (b : V) (B : Brd) (ea : Addr) (kvs : List (List Key × V)) (ps : List Plc), vs = [b, .ref ea] ∧ Same G H ∧ At G b (boardD B) ∧ Good B ∧ Rd H ea (.dT kvs) ∧ Tells G kvs ps (kQ B 0) ∧
  ∀ (G' H' : Hp) (ba : Addr) (o : Obj) (bkv : List (List Key × V)), Ext G H G' H' → G' ba = some (.frz o (.dT bkv)) → TellsD G' bkv (goB B) (behD B) → Q (.ref ba) H'
theorem scBehind : FnScope ["board", "ended", "behind", "position"] ["board", "ended"] (defScope sBehind) := ⟨rfl, rfl, rfl, by decide +kernel, rfl, by decide +kernel, by decide +kernel⟩
structure BehAt (B : Brd) (G H G1 H1 : Hp) (ka : Addr) (i : Nat) : Prop where
  x : Ext G H G1 H1
  k : ∃ kvs, Own H G1 H1 ka (.dT kvs) ∧ TellsD G1 kvs (((allPos B.n).take i).filter fun p => (winAt B p).isNone) (behD B)
theorem ok_behind {f : Addr} {fd : FuncData} (F : Fun K "positions_behind" "positions_behind" sBehind f fd) (T : Txt mg) (C_positions_of : Cal P w K mg base 1 "positions_of" ["board"] spPositions)
    (C_lanes_ahead : Cal P w K mg base 2 "lanes_ahead" ["board", "position"] spAhead) (C_moved : Cal P w K mg base 1 "moved" ["position", "yard"] spMoved) : FnOk P w K mg base CX0 3 f fd ["board", "ended"] spBehind := by
  refine F.ok scBehind (fun vs H Q E h => ?_) (fun cdv A outer s H vs Q E hr h => ?_)
  · obtain ⟨G, b, B, ea, kvs, ps, rfl, _⟩ := h
    rfl
  · obtain ⟨G, b, B, ea, ekv, eps, rfl, hG, hb, g, hea, te, q⟩ := h
    have hr_ : ∀ {j : Nat}, j ≤ 2 → Room j _ := fun h => hr.mono h
    have np := allPos_nodup B.n
    refine ⟨_, (pss_cons (ps_set (i := 2) scBehind.nd rfl (Or.inl rfl) pe_dnewT)
      (pss_cons (ps_for PassesOwn.never rfl (pi_K (K := K) rfl (pe_call C_positions_of.ok (hr_ (by decide)) rfl C_positions_of.mg C_positions_of.kp C_positions_of.b .nil pass0 (pa_cons (pv 0) pa_nil))) (pg_name (i := 3) scBehind.nd rfl (Or.inr rfl))
       (pss_one (ps_if (pt_cmp (pc_dnotin (hu_of hr) (pv 3) (pv 1)) (by with_unfolding_all rfl))
         (pss_one (ps_dput (hu_of hr) (pv 2) (pv 3) (pe_comp ["yard", "position"] [none, some 3] rfl (cs_mk (N₀ := ["board", "ended", "behind", "position"]) (sc := defScope sBehind) (by decide +kernel)) (pi_K (K := K) rfl (pe_call C_lanes_ahead.ok (hr_ (by decide)) rfl C_lanes_ahead.mg C_lanes_ahead.kp C_lanes_ahead.b .nil pass0 (pa_cons (pv 0) (pa_cons (pv 3) pa_nil)))) (fun _ _ _ _ _ => (pg_name (i := 0) (show (["yard", "position"] : List Str).Nodup from by decide +kernel) rfl (Or.inl rfl))) (fun _ _ _ _ _ => pts_nil) (fun _ _ _ _ _ => (pe_call C_moved.ok (hr_ (by decide)) rfl C_moved.mg C_moved.kp C_moved.b .nil pass0 (pa_cons (pv 1) (pa_cons (pv 0) pa_nil))))) rfl))
         pss_nil)))
      (pss_one (ps_ret (pe_frz (pv 2)))))), ?_⟩
    intro ka hka
    have x1 := (Ext.refl hG).lay (o := .dT []) hka
    have k1 := Own.fresh (o := .dT []) (Ext.refl hG) hka
    generalize upd H ka (.dT []) = H1 at x1 k1
    refine ⟨_, rfl, G, b, B, rfl, x1.gh, hb, g, fun G2 H2 r x2 ar => ?_⟩
    cases ar with
    | lst hna al =>
    rename_i na lv
    have el : lv.length = (allPos B.n).length := by rw [al.length, List.length_map]
    have k2 := k1.ext x2
    refine ⟨na, rfl, ⟨_, SqL.of (x2.gh _ _ hna)⟩, ?_⟩
    refine for_list (xs := lv) (fun i σ H' => ∃ (v3 : Option V) (G3 : Hp), σ = [some b, some (.ref ea), some (.ref ka), v3] ∧ Same G2 G3 ∧ BehAt B G H G3 H' ka i) ⟨none, G2, rfl, Same.refl _, x1.trans x2, [], k2, tellsD_nil⟩ ?_ ?_ ?_
    · rintro i σ H' hi ⟨v3, G3, rfl, s3, x3, _⟩
      exact SqL.of (x3.gh _ _ (s3 _ _ hna))
    · rintro i x σ H' hx ⟨v3, G3, rfl, s3, x3, kvs, k3, tl⟩
      obtain ⟨d, hd, ad⟩ := (al.mono s3).get' hx
      rw [List.getElem?_map] at hd
      cases hq : (allPos B.n)[i]? with
      | none => rw [hq] at hd; cases hd
      | some pl =>
        rw [hq] at hd
        have hd : posD pl = d := Option.some.inj hd
        subst hd
        obtain ⟨c, rfl, hc⟩ := ad.pos
        have hnew := take_new np hq
        have hpm := List.mem_of_getElem? hq
        have etk : ((allPos B.n).take (i + 1)).filter (fun p => (winAt B p).isNone) = ((allPos B.n).take i).filter (fun p => (winAt B p).isNone) ++ (if (winAt B pl).isNone = true then [pl] else []) := by
          exact filter_take hq
        refine ⟨_, rfl, _, rfl, ea, _, rfl, get_t (k := posK pl) (rd_mono x3.hh hea) (x3.gh _ _ hc), _, rfl, ?_⟩
        rw [tells_is te, kQ_in hpm]
        have e0 : Kn (gameOf B) 0 pl = (winAt B pl).map fun s => (s, 0) := rfl
        cases ew : winAt B pl with
        | some t =>
          rw [ew] at e0 etk
          have e0 : Kn (gameOf B) 0 pl = some (t, 0) := e0
          rw [e0]
          refine iteF ?_
          refine ⟨_, G3, rfl, s3, x3, kvs, k3, ?_⟩
          rw [etk, if_neg (by simp), List.append_nil]
          exact tl
        | none =>
          rw [ew] at e0 etk
          have e0 : Kn (gameOf B) 0 pl = none := e0
          rw [e0]
          refine iteT ?_
          -- the positions behind
          refine ⟨_, rfl, _, rfl, G3, b, .ref c, B, pl, rfl, x3.gh, hb.mono x3.gg, ad, g.len, fun G4 H4 r4 x4 ar4 => ?_⟩
          cases ar4 with
          | lst hwa aw =>
          rename_i wa ws
          have ews := aw.ints_of
          subst ews
          have k4 := k3.ext x4
          have x34 := x3.trans x4
          refine ⟨wa, rfl, ⟨_, SqL.of (x4.gh _ _ hwa)⟩, fun D hD => ?_⟩
          have x5 := x34.lay (o := .lst []) hD
          have k5 := k4.lay (u := .lst []) hD
          have w5 := Own.fresh (o := .lst []) x34 hD
          have nkD : ka ≠ D := ne_of_none k4.is hD
          have hc4 := x4.gg _ _ hc
          refine comp_list (xs := (waysS B pl).map V.int) (fun i τ H' => ∃ (v : Option V) (G5 : Hp), τ = [v, some (.ref c)] ∧ Ext G H G5 H' ∧ Same G4 G5 ∧ Own H G5 H' ka (.dT kvs) ∧ ∃ xs, Own H G5 H' D (.lst xs) ∧ AtAll G5 xs ((((waysS B pl).take i).map (nxt pl)).map posD)) ⟨none, G4, rfl, x5, Same.refl _, k5, [], w5, .nil⟩ ?_ ?_ ?_
          · rintro i τ H' hi ⟨v, G5, rfl, x, s, _⟩
            exact SqL.of (x.gh _ _ (s _ _ hwa))
          · rintro j x τ H' hx ⟨v, G5, rfl, x6, s6, k6, xs, w6, ax⟩
            rw [List.getElem?_map] at hx
            cases hy : (waysS B pl)[j]? with
            | none => rw [hy] at hx; cases hx
            | some y =>
              rw [hy] at hx
              have hx : V.int y = x := Option.some.inj hx
              subst hx
              refine tt_go ?_
              refine ⟨_, rfl, _, rfl, G5, .ref c, pl, y, rfl, x6.gh, pos_at (s6 _ _ hc4), fun G7 H7 r7 x7 ar7 => ?_⟩
              have w7 := w6.ext x7
              have k7 := k6.ext x7
              refine ⟨xs, w7.is, ?_, _, G7, rfl, w7.write (x6.trans x7), s6.trans x7.gg, k7.other nkD, _, w7.set, ?_⟩
              · have e := ax.length
                rw [List.length_map, List.length_map, List.length_take] at e
                have h1 : (waysS B pl).length = (waysB B pl).length := srt_len _
                have h2 := ways_61 g pl
                exact small1000 (by (first | lia | omega))
              · rw [List.take_add_one, hy, List.map_append, List.map_append]
                exact (ax.mono x7.gg).append (.one ar7)
          rintro τ H6 ⟨v, G5, rfl, x6, s6, k6, xs, w6, ax⟩
          rw [List.length_map, List.take_length] at ax
          have x7 := w6.join x6
          have k7 := w6.joined k6 nkD
          have s7 : Same G5 (upd G5 D (.lst xs)) := same_upd w6.apart
          have a7 : At (upd G5 D (.lst xs)) (.ref D) (behD B pl) := .lst upd_same (ax.mono s7)
          generalize upd G5 D (.lst xs) = G7 at x7 k7 s7 a7
          have s47 := s6.trans s7
          refine ⟨_, rfl, _, rfl, ka, _, rfl, DPut.t k7.is (k := posK pl) (x7.gh _ _ (s47 _ _ hc4)) (tellsD_few tl g fun p hp => List.mem_of_mem_take (List.mem_filter.mp hp).1), ?_⟩
          refine ⟨_, G7, rfl, s3.trans (x4.gg.trans s47), k7.write x7, _, k7.set, ?_⟩
          rw [etk, if_pos (show (none : Option Bool).isNone = true from rfl)]
          refine (tl.mono (x4.gg.trans s47)).put (fun z => hnew (List.mem_filter.mp z).1) a7
    · rintro σ H' ⟨v3, G3, rfl, s3, x3, kvs, k3, tl⟩
      rw [el, List.take_length] at tl
      refine ⟨_, rfl, ka, kvs, rfl, k3.is, fun o => ?_⟩
      have k4 := k3.set (u := .frz o (.dT kvs))
      exact q _ _ ka o kvs (k4.join (k3.write x3)) upd_same (tl.mono (same_upd k4.apart))

/-! ### side_that_wins -/
def spSide : Sp := fun vs H Q _ => ∃ (G : Hp) (wa : Addr) (kvs : List (List Key × V)) (ps : List Plc) (k : Plc → Val) (bv : V) (qs : List Plc) (t : Bool), vs = [.ref wa, .str (sd t), bv] ∧ Same G H ∧ Rd H wa (.dT kvs) ∧ Tells G kvs ps k ∧ At G bv (.list (qs.map posD)) ∧ qs.length ≤ 100 ∧
  ∀ H', Same H H' → Q (wV (sideB k t qs)) H'
theorem scSide : FnScope ["won", "turn", "behind", "sides"] ["won", "turn", "behind"] (defScope sSide) := ⟨rfl, rfl, rfl, by decide +kernel, rfl, by decide +kernel, by decide +kernel⟩
theorem ok_side {f : Addr} {fd : FuncData} (F : Fun K "side_that_wins" "side_that_wins" sSide f fd) (T : Txt mg) (C_other_side : Cal P w K mg base 1 "other_side" ["side"] spOther) : FnOk P w K mg base CX0 2 f fd ["won", "turn", "behind"] spSide := by
  refine F.ok scSide (fun vs H Q E h => ?_) (fun cdv A outer s H vs Q E hr h => ?_)
  · obtain ⟨G, wa, kvs, ps, k, bv, qs, t, rfl, _⟩ := h
    rfl
  · obtain ⟨G, wa, kvs, ps, k, bv, qs, t, rfl, hG, hwa, tl, hbv, hlen, q⟩ := h
    have hr_ : ∀ {j : Nat}, j ≤ 1 → Room j _ := fun h => hr.mono h
    cases hbv with
    | lst hba al =>
    rename_i ba lv
    have el : lv.length = qs.length := by rw [al.length, List.length_map]
    refine ⟨_, (pss_cons (ps_setComp (i := 3) ["position", "won"] [none, some 0] rfl (cs_mk (N₀ := ["won", "turn", "behind", "sides"]) (sc := defScope sSide) (by decide +kernel)) (pi_K (K := K) rfl (pv 2)) (fun _ _ _ _ _ => (pg_name (i := 0) (show (["position", "won"] : List Str).Nodup from by decide +kernel) rfl (Or.inl rfl))) (fun _ _ _ _ _ => (pts_one (pt_cmp (pc_din (hu_of hr) (pv 0) (pv 1)) (by with_unfolding_all rfl)))) (fun _ _ _ _ _ => (pe_ix (ix_K (K := K) rfl) (pe_dget (hu_of hr) (pv 1) (pv 0) (fun _ _ => rfl)) pe_int (fun _ _ => rfl))) scSide.nd rfl (Or.inl rfl) rfl)
      (pss_cons (ps_if (pt_cmpR (op_inD hr) (pv 1) (pv 3) (by with_unfolding_all rfl))
       (pss_one (ps_ret (pv 1)))
       pss_nil)
      (pss_cons (ps_if (pt_cmpR op_eq (pe_callB (len_K (K := K) rfl) rfl T.n_len b_len (pa_cons (pv 3) pa_nil)) (pe_callB (len_K (K := K) rfl) rfl T.n_len b_len (pa_cons (pv 2) pa_nil)) (nomark _))
       (pss_one (ps_ret (pe_call C_other_side.ok (hr_ (by decide)) rfl C_other_side.mg C_other_side.kp C_other_side.b .nil pass0 (pa_cons (pv 1) pa_nil))))
       pss_nil)
      (pss_one (ps_ret pe_non))))), ?_⟩
    refine ⟨_, rfl, ba, rfl, ⟨_, SqL.of (hG _ _ hba)⟩, fun D hD => ?_⟩
    have x0 := (Ext.refl hG).lay (o := .lst []) hD
    have w0 := Own.fresh (o := .lst []) (Ext.refl hG) hD
    refine comp_list (xs := lv) (fun i τ H' => ∃ v, τ = [v, some (.ref wa)] ∧ Ext G H G H' ∧ Own H G H' D (.lst (((sidesOf k (qs.take i)).map sd).map V.str))) ⟨none, rfl, x0, w0⟩ ?_ ?_ ?_
    · rintro i τ H' hi ⟨v, rfl, x, w⟩
      exact SqL.of (x.gh _ _ hba)
    · rintro i x τ H' hx ⟨v, rfl, x1, w1⟩
      obtain ⟨d, hd, ad⟩ := al.get' hx
      rw [List.getElem?_map] at hd
      cases hq : qs[i]? with
      | none => rw [hq] at hd; cases hd
      | some pl =>
        rw [hq] at hd
        have hd : posD pl = d := Option.some.inj hd
        subst hd
        obtain ⟨c, rfl, hc⟩ := ad.pos
        have hc1 := x1.gh _ _ hc
        have st := sides_take (k := k) hq
        refine ⟨_, rfl, _, rfl, wa, _, rfl, get_t (k := posK pl) (rd_mono x1.hh hwa) hc1, _, rfl, ?_⟩
        rw [tells_is tl]
        cases ek : k pl with
        | none =>
          rw [ek] at st
          refine iteF ⟨_, rfl, x1, ?_⟩
          rw [st]
          show Own H G H' D (.lst (((sidesOf k (qs.take i) ++ []).map sd).map V.str))
          rw [List.append_nil]
          exact w1
        | some w' =>
          rw [ek] at st
          obtain ⟨a, ea, ha⟩ := tells_at tl ek
          refine iteT ?_
          refine ⟨_, rfl, _, rfl, wa, .ref a, rfl, (by rw [← ea]; exact get_t (k := posK pl) (rd_mono x1.hh hwa) hc1), .inr (.inl ⟨a, _, 0, .str (sd w'.1), rfl, rfl, SqT.of (x1.gh _ _ ha), atI_nat (j := 0) rfl, _, w1.is, ?_, _, rfl, w1.write x1, ?_⟩)⟩
          · rw [List.length_map, List.length_map]
            have h1 : (sidesOf k (qs.take i)).length ≤ (qs.take i).length := (fm_len _ _).1
            rw [List.length_take] at h1
            exact small1000 (by (first | lia | omega))
          · rw [st, List.map_append, List.map_append]
            exact w1.set
    rintro τ H1 ⟨v, rfl, x1, w1⟩
    rw [el, List.take_length] at w1
    -- turn in sides
    refine ⟨_, rfl, _, rfl, .str (sd t), ((sidesOf k qs).map sd).map .str, .str (sd_can _), .inl (.lst w1.is (atAll_strs fun z hz => ?_)), by show 0 ≤ 60; decide, _, rfl, ?_⟩
    · obtain ⟨b, _, rfl⟩ := List.mem_map.mp hz
      exact sd_can b
    rw [if_neg Bool.false_ne_true, any_str]
    refine ite2 (fun e => ?_) (fun e => ?_)
    · have e : t ∈ sidesOf k qs := mem_sd.mp (of_decide_eq_true e)
      have es : sideB k t qs = some t := if_pos e
      rw [es] at q
      exact ⟨_, rfl, q _ x1.hh⟩
    have e : ¬ t ∈ sidesOf k qs := fun z => e (decide_eq_true (mem_sd.mpr z))
    refine ⟨_, rfl, D, _, rfl, .inl (SqL.of w1.is), _, rfl, ba, _, rfl, .inl (SqL.of (x1.gh _ _ hba)), rfl, _, rfl, ?_⟩
    rw [decV, List.length_map, List.length_map, el]
    refine ite2 (fun e2 => ?_) (fun e2 => ?_)
    · have e2 : (sidesOf k qs).length = qs.length := by
        have := of_decide_eq_true e2
        (first | lia | omega)
      have es : sideB k t qs = some (!t) := by unfold sideB; rw [if_neg e, if_pos e2]
      rw [es] at q
      exact ⟨_, rfl, t, rfl, q _ x1.hh⟩
    · have e2 : ¬ (sidesOf k qs).length = qs.length := fun z => e2 (decide_eq_true (by rw [z]))
      have es : sideB k t qs = none := by unfold sideB; rw [if_neg e, if_neg e2]
      rw [es] at q
      exact q _ x1.hh
/-! ### newly_won -/
def spNewly : Sp := fun vs H Q _ => ∃ (G : Hp) (B : Brd) (r : Nat) (wa : Addr) (kvs : List (List Key × V)) (ps : List Plc) (ba : Addr) (o : Obj) (bkv : List (List Key × V)), vs = [.ref wa, .ref ba] ∧ Same G H ∧ Good B ∧ Rd H wa (.dT kvs) ∧ Tells G kvs ps (kQ B r) ∧
  G ba = some (.frz o (.dT bkv)) ∧ TellsD G bkv (goB B) (behD B) ∧
  ∀ (G' H' : Hp) (fa : Addr) (o' : Obj) (fkv : List (List Key × V)), Ext G H G' H' → G' fa = some (.frz o' (.dT fkv)) → TellsD G' fkv (newQ B r) (newD B r) → Q (.ref fa) H'
theorem scNewly : FnScope ["won", "behind", "fresh", "position", "side"] ["won", "behind"] (defScope sNewly) := ⟨rfl, rfl, rfl, by decide +kernel, rfl, by decide +kernel, by decide +kernel⟩
structure NewAt (B : Brd) (r : Nat) (G H G1 H1 : Hp) (fa : Addr) (i : Nat) : Prop where
  x : Ext G H G1 H1
  k : ∃ fkv, Own H G1 H1 fa (.dT fkv) ∧ TellsD G1 fkv (((goB B).take i).filter (isNew B r)) (newD B r)
theorem ok_newly {f : Addr} {fd : FuncData} (F : Fun K "newly_won" "newly_won" sNewly f fd) (T : Txt mg) (C_side_that_wins : Cal P w K mg base 2 "side_that_wins" ["won", "turn", "behind"] spSide) : FnOk P w K mg base CX0 3 f fd ["won", "behind"] spNewly := by
  refine F.ok scNewly (fun vs H Q E h => ?_) (fun cdv A outer s H vs Q E hr h => ?_)
  · obtain ⟨G, B, r, wa, kvs, ps, ba, o, bkv, rfl, _⟩ := h
    rfl
  · obtain ⟨G, B, r, wa, kvs, ps, ba, o, bkv, rfl, hG, g, hwa, tl, hba, tb, q⟩ := h
    have hr_ : ∀ {j : Nat}, j ≤ 2 → Room j _ := fun h => hr.mono h
    refine ⟨_, (pss_cons (ps_set (i := 2) scNewly.nd rfl (Or.inl rfl) pe_dnewT)
      (pss_cons (ps_for PassesOwn.never rfl (pi_dct (pv 1)) (pg_name (i := 3) scNewly.nd rfl (Or.inl rfl))
       (pss_one (ps_if (pt_cmp (pc_dnotin (hu_of hr) (pv 3) (pv 0)) (by with_unfolding_all rfl))
         (pss_cons (ps_set (i := 4) scNewly.nd rfl (Or.inl rfl) (pe_call C_side_that_wins.ok (hr_ (by decide)) rfl C_side_that_wins.mg C_side_that_wins.kp C_side_that_wins.b .nil pass0 (pa_cons (pv 0) (pa_cons (pe_ix (ix_K (K := K) rfl) (pv 3) pe_int (fun _ _ => rfl)) (pa_cons (pe_dget (hu_of hr) (pv 1) (pv 3) (fun _ _ => rfl)) pa_nil)))))
          (pss_one (ps_if (pt_cmp (pc_notN (pv 4)))
           (pss_one (ps_dput (hu_of hr) (pv 2) (pv 3) (pv 4) rfl))
           pss_nil)))
         pss_nil)))
      (pss_one (ps_ret (pe_frz (pv 2)))))), ?_⟩
    intro fa hfa
    have x1 := (Ext.refl hG).lay (o := .dT []) hfa
    have k1 := Own.fresh (o := .dT []) (Ext.refl hG) hfa
    generalize upd H fa (.dT []) = H1 at x1 k1
    refine ⟨_, rfl, ba, o, bkv, rfl, x1.gh _ _ hba, ?_⟩
    refine for_dct (kvs := bkv) (a := ba) (o := o) (fun i σ H' => ∃ (v3 v4 : Option V), σ = [some (.ref wa), some (.ref ba), some (.ref fa), v3, v4] ∧ NewAt B r G H G H' fa i) ⟨none, none, rfl, x1, [], k1, tellsD_nil⟩ ?_ ?_ ?_
    · rintro i σ H' hi ⟨v3, v4, rfl, x, _⟩
      exact x.gh _ _ hba
    · rintro i ky vv b σ H' hkv hb ⟨v3, v4, rfl, x2, fkv, k2, tf⟩
      obtain ⟨pl, hpl, rfl⟩ := tellsD_key tb hkv
      have hgo := List.mem_of_getElem? hpl
      obtain ⟨hpm, hwn⟩ := mem_go.mp hgo
      have hb : H' b = some (.tup (posV pl)) := hb
      have hnew : pl ∉ (goB B).take i := take_new (go_nodup B) hpl
      have etk : ((goB B).take (i + 1)).filter (isNew B r) = ((goB B).take i).filter (isNew B r) ++ (if isNew B r pl = true then [pl] else []) := by
        exact filter_take hpl
      refine ⟨_, rfl, _, rfl, wa, _, rfl, get_t (k := posK pl) (rd_mono x2.hh hwa) hb, _, rfl, ?_⟩
      rw [tells_is tl, kQ_in hpm]
      cases ek : Kn (gameOf B) r pl with
      | some w' =>
        refine iteF ?_
        refine ⟨_, _, rfl, x2, fkv, k2, ?_⟩
        rw [etk, if_neg (by unfold isNew; rw [ek]; simp), List.append_nil]
        exact tf
      | none =>
        refine iteT ?_
        obtain ⟨bv, ebv, abv⟩ := tb.at_ pl hgo
        refine ⟨_, rfl, _, rfl, .inr (.inl ⟨b, _, 2, .str (sd pl.t), rfl, rfl, SqT.of hb, atI_nat (j := 2) rfl, _, rfl, _, rfl, ba, bv, rfl, (by rw [← ebv]; exact get_t (k := posK pl) (rd_frz (x2.gh _ _ hba)) hb), ?_⟩)⟩
        refine ⟨G, wa, kvs, ps, kQ B r, bv, behS B pl, pl.t, rfl, x2.gh, rd_mono x2.hh hwa, tl, abv, ?_, fun H3 s3 => ?_⟩
        · rw [beh_len]
          have := ways_61 g pl
          (first | lia | omega)
        rw [side_new g hgo ek]
        have x3 : Ext G H G H3 := x2.trans (Ext.grow x2.gh s3)
        have k3 : Own H G H3 fa (.dT fkv) := ⟨k2.new, k2.apart, s3 _ _ k2.is⟩
        refine ⟨_, rfl, _, rfl, ?_⟩
        cases e1 : Kn (gameOf B) (r + 1) pl with
        | none =>
          refine iteF ?_
          refine ⟨_, _, rfl, x3, fkv, k3, ?_⟩
          rw [etk, if_neg (by unfold isNew; rw [e1]; simp), List.append_nil]
          exact tf
        | some w' =>
          refine iteT ?_
          refine ⟨_, rfl, _, rfl, _, rfl, fa, _, rfl, DPut.t k3.is (k := posK pl) (s3 _ _ hb) (tellsD_few tf g fun p hp => (mem_go.mp (List.mem_of_mem_take (List.mem_filter.mp hp).1)).1), ?_⟩
          refine ⟨_, _, rfl, k3.write x3, _, k3.set, ?_⟩
          rw [etk, if_pos (by unfold isNew; rw [ek, e1]; rfl)]
          refine tf.put (fun z => hnew (List.mem_filter.mp z).1) ?_
          have es : sdN B r pl = w'.1 := by unfold sdN; rw [e1]; rfl
          show At G _ (.str (sd (sdN B r pl)))
          rw [es]
          exact .str (sd_can _)
    · rintro σ H' ⟨v3, v4, rfl, x2, fkv, k2, tf⟩
      rw [tb.len, List.take_length] at tf
      refine ⟨_, rfl, fa, fkv, rfl, k2.is, fun o' => ?_⟩
      have k4 := k2.set (u := .frz o' (.dT fkv))
      exact q _ _ fa o' fkv (k4.join (k2.write x2)) upd_same (tf.mono (same_upd k4.apart))

/-! ### won_positions -/
def spWon : Sp := fun vs H Q _ => ∃ (G : Hp) (b : V) (B : Brd), vs = [b] ∧ Same G H ∧ At G b (boardD B) ∧ Good B ∧
  ∀ (G' H' : Hp) (wa : Addr) (o : Obj) (kvs : List (List Key × V)) (ps : List Plc), Ext G H G' H' → G' wa = some (.frz o (.dT kvs)) → Tells G' kvs ps (kF B) → Q (.ref wa) H'
theorem scWon : FnScope ["board", "won", "behind", "count", "fresh", "position"] ["board"] (defScope sWon) := ⟨rfl, rfl, rfl, by decide +kernel, rfl, by decide +kernel, by decide +kernel⟩
/-- between two rounds -/
structure WonAt (B : Brd) (G H G1 H1 : Hp) (wa ba fa : Addr) (o : Obj) (bkv fkv : List (List Key × V)) (r : Nat) : Prop where
  x : Ext G H G1 H1
  k : ∃ kvs ps, Own H G1 H1 wa (.dT kvs) ∧ Tells G1 kvs ps (kQ B r)
  b : G1 ba = some (.frz o (.dT bkv))
  t : TellsD G1 bkv (goB B) (behD B)
  f : ∃ o', G1 fa = some (.frz o' (.dT fkv))
  n : TellsD G1 fkv (newQ B r) (newD B r)
/-- within a round -/
structure PutAt (B : Brd) (G H G1 H1 : Hp) (wa ba fa : Addr) (o o' : Obj) (bkv fkv : List (List Key × V)) (r i : Nat) : Prop where
  x : Ext G H G1 H1
  k : ∃ kvs ps, Own H G1 H1 wa (.dT kvs) ∧ Tells G1 kvs ps (kS B r i)
  b : G1 ba = some (.frz o (.dT bkv))
  t : TellsD G1 bkv (goB B) (behD B)
  f : G1 fa = some (.frz o' (.dT fkv))
  n : TellsD G1 fkv (newQ B r) (newD B r)
theorem ok_won {f : Addr} {fd : FuncData} (F : Fun K "won_positions" "won_positions" sWon f fd) (T : Txt mg) (C_ended_positions : Cal P w K mg base 4 "ended_positions" ["board"] spEnded)
    (C_positions_behind : Cal P w K mg base 3 "positions_behind" ["board", "ended"] spBehind) (C_newly_won : Cal P w K mg base 3 "newly_won" ["won", "behind"] spNewly) : FnOk P w K mg base CX0 5 f fd ["board"] spWon := by
  refine F.ok scWon (fun vs H Q E h => ?_) (fun cdv A outer s H vs Q E hr h => ?_)
  · obtain ⟨G, b, B, rfl, _⟩ := h
    rfl
  · obtain ⟨G, b, B, rfl, hG, hb, g, q⟩ := h
    have hr_ : ∀ {j : Nat}, j ≤ 4 → Room j _ := fun h => hr.mono h
    refine ⟨_, (pss_cons (ps_set (i := 1) scWon.nd rfl (Or.inl rfl) (pe_call C_ended_positions.ok (hr_ (by decide)) rfl C_ended_positions.mg C_ended_positions.kp C_ended_positions.b .nil pass0 (pa_cons (pv 0) pa_nil)))
      (pss_cons (ps_set (i := 2) scWon.nd rfl (Or.inl rfl) (pe_call C_positions_behind.ok (hr_ (by decide)) rfl C_positions_behind.mg C_positions_behind.kp C_positions_behind.b .nil pass0 (pa_cons (pv 0) (pa_cons (pv 1) pa_nil))))
      (pss_cons (ps_set (i := 3) scWon.nd rfl (Or.inl rfl) pe_int)
      (pss_cons (ps_set (i := 4) scWon.nd rfl (Or.inl rfl) (pe_call C_newly_won.ok (hr_ (by decide)) rfl C_newly_won.mg C_newly_won.kp C_newly_won.b .nil pass0 (pa_cons (pv 1) (pa_cons (pv 2) pa_nil))))
      (pss_cons (ps_while PassesOwn.never (pt_dct (pv 4))
       (pss_cons (ps_for PassesOwn.never rfl (pi_dct (pv 4)) (pg_name (i := 5) scWon.nd rfl (Or.inl rfl))
         (pss_one (ps_dput (hu_of hr) (pv 1) (pv 5) (pe_tup (pa_cons (pe_dget (hu_of hr) (pv 4) (pv 5) (fun _ _ => rfl)) (pa_cons (pv 3) pa_nil))) rfl)))
        (pss_cons (ps_set (i := 3) scWon.nd rfl (Or.inl rfl) (pe_op op_add (pv 3) pe_int))
        (pss_one (ps_set (i := 4) scWon.nd rfl (Or.inl rfl) (pe_call C_newly_won.ok (hr_ (by decide)) rfl C_newly_won.mg C_newly_won.kp C_newly_won.b .nil pass0 (pa_cons (pv 1) (pa_cons (pv 2) pa_nil))))))))
      (pss_one (ps_ret (pe_frz (pv 1))))))))), ?_⟩
    refine ⟨_, rfl, G, b, B, rfl, hG, hb, g, fun G1 H1 wa kvs ps x1 k1 t1 => ?_⟩
    refine ⟨_, rfl, _, rfl, G1, b, B, wa, kvs, ps, rfl, x1.gh, hb.mono x1.gg, g, .inl k1.is, t1, fun G2 H2 ba o bkv x2 b2 t2 => ?_⟩
    have k2 := k1.ext x2
    have x12 := x1.trans x2
    refine ⟨_, rfl, _, rfl, G2, B, 0, wa, kvs, ps, ba, o, bkv, rfl, x2.gh, g, .inl k2.is, t1.mono x2.gg, b2, t2, fun G3 H3 fa o3 fkv x3 f3 n3 => ?_⟩
    have k3 := k2.ext x3
    have x13 := x12.trans x3
    -- the rounds
    refine ⟨fun m σ H' => ∃ (r : Nat) (v5 : Option V) (fa : Addr) (fkv : List (List Key × V)) (G1 : Hp), σ = [some b, some (.ref wa), some (.ref ba), some (.int ((r + 1 : Nat) : Int)), some (.ref fa), v5] ∧ WonAt B G H G1 H' wa ba fa o bkv fkv r ∧ m = leftN B r,
      ⟨_, 0, none, fa, fkv, G3, rfl, ⟨x13, ⟨kvs, ps, k3, (t1.mono x2.gg).mono x3.gg⟩, x3.gg _ _ b2, t2.mono x3.gg, ⟨o3, f3⟩, n3⟩, rfl⟩, ?_⟩
    clear x13 k3 n3 f3 x3 o3 fkv fa H3 G3 x12 k2 t2 b2 x2 H2 G2 t1 k1 x1 ps kvs H1 G1
    rintro m σ H1 ⟨r, v5, fa, fkv, G1, rfl, ⟨x1, ⟨kvs, ps, k1, t1⟩, b1, tb, ⟨of, f1⟩, n1⟩, rfl⟩
    refine ⟨_, rfl, fa, fkv, rfl, rd_frz (x1.gh _ _ f1), ?_⟩
    rw [n1.len]
    refine ite2 (fun e => ?_) (fun e => ?_)
    · have e : newQ B r ≠ [] := fun z => by
        have := of_decide_eq_true e
        rw [z] at this
        exact this rfl
      refine ⟨fun σ' H' => ∃ (v5 : Option V) (fa : Addr) (fkv : List (List Key × V)) (G1 : Hp), σ' = [some b, some (.ref wa), some (.ref ba), some (.int ((r + 1 + 1 : Nat) : Int)), some (.ref fa), v5] ∧ WonAt B G H G1 H' wa ba fa o bkv fkv (r + 1), ?_, ?_⟩
      · rintro σ' H' ⟨v5, fa, fkv, G1, rfl, R⟩
        exact ⟨_, leftN_lt e, r + 1, v5, fa, fkv, G1, rfl, R, rfl⟩
      -- the round's finds are written
      refine ⟨_, rfl, fa, of, fkv, rfl, x1.gh _ _ f1, ?_⟩
      refine for_dct (kvs := fkv) (a := fa) (o := of) (fun i σ H' => ∃ (v5 : Option V) (G1 : Hp), σ = [some b, some (.ref wa), some (.ref ba), some (.int ((r + 1 : Nat) : Int)), some (.ref fa), v5] ∧ PutAt B G H G1 H' wa ba fa o of bkv fkv r i) ⟨v5, G1, rfl, x1, ⟨kvs, ps, k1, t1.congr fun p => (kS_zero B r p).symm⟩, b1, tb, f1, n1⟩ ?_ ?_ ?_
      · rintro i σ H' hi ⟨v5, G2, rfl, R⟩
        exact R.x.gh _ _ R.f
      · rintro i ky vv c σ H' hkv hc ⟨v5, G2, rfl, ⟨x2, ⟨kvs, ps, k2, t2⟩, b2, tb2, f2, n2⟩⟩
        obtain ⟨pl, hpl, rfl⟩ := tellsD_key n2 hkv
        have hnm := List.mem_of_getElem? hpl
        obtain ⟨hgo, hk, t, ht⟩ := mem_new.mp hnm
        have hc : H' c = some (.tup (posV pl)) := hc
        obtain ⟨fv, efv, afv⟩ := n2.at_ pl hnm
        have es : sdN B r pl = t := by unfold sdN; rw [ht]; rfl
        have afv : At G2 fv (.str (sd (sdN B r pl))) := afv
        rw [es] at afv
        cases afv
        refine ⟨_, rfl, _, rfl, fa, .str (sd t), rfl, (by rw [← efv]; exact get_t (k := posK pl) (rd_frz (x2.gh _ _ f2)) hc), _, rfl, few (by show 2 ≤ 1000; decide), fun d hd => ?_⟩
        have x3 := x2.put (o := .tup [.str (sd t), .int ((r + 1 : Nat) : Int)]) hd
        have k3 := k2.put (u := .tup [.str (sd t), .int ((r + 1 : Nat) : Int)]) hd
        have s3 : Same G2 (upd G2 d (.tup [.str (sd t), .int ((r + 1 : Nat) : Int)])) := same_upd (x2.gh.free hd)
        have d3 : upd G2 d (.tup [.str (sd t), .int ((r + 1 : Nat) : Int)]) d = some (.tup [.str (sd t), .int ((r + 1 : Nat) : Int)]) := upd_same
        have hc3 : upd H' d (.tup [.str (sd t), .int ((r + 1 : Nat) : Int)]) c = some (.tup (posV pl)) := same_upd hd _ _ hc
        refine ⟨_, rfl, _, rfl, wa, _, rfl, DPut.t k3.is (k := posK pl) hc3 (tells_len t2 (fun p hp => kS_in hp) g), ?_⟩
        refine ⟨_, _, rfl, k3.write x3, ⟨_, ps ++ [pl], k3.set, ?_⟩, s3 _ _ b2, tb2.mono s3, s3 _ _ f2, n2.mono s3⟩
        have hps : pl ∉ ps := fun z => by
          have := (t2.has pl).mp z
          rw [kS_old hpl] at this
          cases this
        exact ((t2.mono s3).put (w := (t, r + 1)) hps (vd_at d3)).congr fun p => kS_step hpl ht p
      · rintro σ H' ⟨v5, G2, rfl, ⟨x2, ⟨kvs, ps, k2, t2⟩, b2, tb2, f2, n2⟩⟩
        rw [n2.len] at t2
        have t2 := t2.congr fun p => kS_end B r p
        refine ⟨_, rfl, _, _, rfl, rfl, ?_⟩
        refine ⟨_, rfl, _, rfl, G2, B, r + 1, wa, kvs, ps, ba, o, bkv, rfl, x2.gh, g, .inl k2.is, t2, b2, tb2, fun G3 H3 fa o3 fkv x3 f3 n3 => ?_⟩
        have k3 := k2.ext x3
        have x23 := x2.trans x3
        exact ⟨_, fa, fkv, G3, rfl, x23, ⟨kvs, ps, k3, t2.mono x3.gg⟩, x3.gg _ _ b2, tb2.mono x3.gg, ⟨o3, f3⟩, n3⟩
    · have e : newQ B r = [] := by
        refine Classical.byContradiction fun z => e (decide_eq_true ?_)
        intro y
        exact z (List.eq_nil_of_length_eq_zero y)
      refine ⟨_, rfl, wa, kvs, rfl, k1.is, fun o' => ?_⟩
      have k4 := k1.set (u := .frz o' (.dT kvs))
      exact q _ _ wa o' kvs ps (k4.join (k1.write x1)) upd_same ((t1.mono (same_upd k4.apart)).congr fun p => kF_rest g e p)

/-! ### move_told -/
def spMoveTold : Sp := fun vs H Q _ => ∃ (G : Hp) (b : V) (B : Brd) (wa : Addr) (o : Obj) (kvs : List (List Key × V)) (ps : List Plc) (pv : V) (p : Plc), vs = [b, .ref wa, pv] ∧ Same G H ∧ At G b (boardD B) ∧ Good B ∧ G wa = some (.frz o (.dT kvs)) ∧ Tells G kvs ps (kF B) ∧ At G pv (posD p) ∧ p ∈ allPos B.n ∧
  ∀ H', Same H H' → Q (mvV (moveB B p)) H'
theorem scMoveTold : FnScope ["board", "won", "position", "goal", "fitting"] ["board", "won", "position"] (defScope sMoveTold) := ⟨rfl, rfl, rfl, by decide +kernel, rfl, by decide +kernel, by decide +kernel⟩
theorem ok_moveTold {f : Addr} {fd : FuncData} (F : Fun K "move_told" "move_told" sMoveTold f fd) (T : Txt mg) (C_lanes_ahead : Cal P w K mg base 2 "lanes_ahead" ["board", "position"] spAhead)
    (C_moved : Cal P w K mg base 1 "moved" ["position", "yard"] spMoved) : FnOk P w K mg base CX0 3 f fd ["board", "won", "position"] spMoveTold := by
  refine F.ok scMoveTold (fun vs H Q E h => ?_) (fun cdv A outer s H vs Q E hr h => ?_)
  · obtain ⟨G, b, B, wa, o, kvs, ps, pv, p, rfl, _⟩ := h
    rfl
  · obtain ⟨G, b, B, wa, o, kvs, ps, pv, p, rfl, hG, hb, g, hwa, tl, hpv, hp, q⟩ := h
    have hr_ : ∀ {j : Nat}, j ≤ 2 → Room j _ := fun h => hr.mono h
    obtain ⟨pa, rfl, hpa⟩ := hpv.pos
    refine ⟨_, (pss_cons (ps_set (i := 3) scMoveTold.nd rfl (Or.inr rfl) pe_non)
      (pss_cons (ps_if (pt_cmp (pc_din (hu_of hr) (pv 2) (pv 1)) (by with_unfolding_all rfl))
       (pss_cons (ps_if (pt_cmpR op_eq (pe_ix (ix_K (K := K) rfl) (pe_dget (hu_of hr) (pv 1) (pv 2) (fun _ _ => rfl)) pe_int (fun _ _ => rfl)) pe_int (nomark _))
         (pss_one (ps_ret pe_non))
         pss_nil)
        (pss_one (ps_set (i := 3) scMoveTold.nd rfl (Or.inr rfl) (pe_tup (pa_cons (pe_ix (ix_K (K := K) rfl) (pe_dget (hu_of hr) (pv 1) (pv 2) (fun _ _ => rfl)) pe_int (fun _ _ => rfl)) (pa_cons (pe_op op_sub (pe_ix (ix_K (K := K) rfl) (pe_dget (hu_of hr) (pv 1) (pv 2) (fun _ _ => rfl)) pe_int (fun _ _ => rfl)) pe_int) pa_nil))))))
       pss_nil)
      (pss_cons (ps_setComp (i := 4) ["yard", "goal", "won", "position"] [none, some 3, some 1, some 2] rfl (cs_mk (N₀ := ["board", "won", "position", "goal", "fitting"]) (sc := defScope sMoveTold) (by decide +kernel)) (pi_K (K := K) rfl (pe_call C_lanes_ahead.ok (hr_ (by decide)) rfl C_lanes_ahead.mg C_lanes_ahead.kp C_lanes_ahead.b .nil pass0 (pa_cons (pv 0) (pa_cons (pv 2) pa_nil)))) (fun _ _ _ _ _ => (pg_name (i := 0) (show (["yard", "goal", "won", "position"] : List Str).Nodup from by decide +kernel) rfl (Or.inl rfl))) (fun _ _ _ _ _ => (pts_one (pt_cmpR (op_eqD hr) (pe_dget1 (hu_of hr) (pv 2) (pe_call C_moved.ok (hr_ (by decide)) rfl C_moved.mg C_moved.kp C_moved.b .nil pass0 (pa_cons (pv 3) (pa_cons (pv 0) pa_nil))) ⟨rfl, rfl, rfl, rfl⟩) (pv 1) (nomark _)))) (fun _ _ _ _ _ => (pv 0)) scMoveTold.nd rfl (Or.inl rfl) rfl)
      (pss_one (ps_ret (pe_ix (ix_K (K := K) rfl) (pv 4) pe_int (fun _ _ => rfl))))))), ?_⟩
    refine seq_two (fun σ' H' => σ' = [some b, some (.ref wa), some (.ref pa), some .non, none] ∧ H' = H) ?_ (fun t => t _ _ ⟨rfl, rfl⟩)
    rintro σ' HX ⟨rfl, eX⟩
    have hG : Same G HX := by rw [eX]; exact hG
    have q : ∀ H', Same HX H' → Q (mvV (moveB B p)) H' := by rw [eX]; exact q
    clear eX
    refine seq_two (fun σ' H' => ∃ (gv : V) (G1 : Hp), σ' = [some b, some (.ref wa), some (.ref pa), some gv, none] ∧ Ext G HX G1 H' ∧ At G1 gv (dV (prevV (verd B p))) ∧ winAt B p = none) ?_ (fun tail => ?_)
    · rintro σ' H1 ⟨gv, G1, rfl, x1, agv, hwn⟩
      refine ⟨_, rfl, _, rfl, G1, b, .ref pa, B, p, rfl, x1.gh, hb.mono x1.gg, pos_at (x1.gg _ _ hpa), g.len, fun G2 H2 r2 x2 ar2 => ?_⟩
      cases ar2 with
      | lst hra aw =>
      rename_i ra ws
      have ews := aw.ints_of
      subst ews
      have x12 := x1.trans x2
      have hwa2 := x12.gg _ _ hwa
      have hpa2 := x12.gg _ _ hpa
      have tl2 := tl.mono x12.gg
      have agv2 := agv.mono x2.gg
      refine ⟨ra, rfl, ⟨_, SqL.of (x2.gh _ _ hra)⟩, fun D hD => ?_⟩
      have x3 := x12.lay (o := .lst []) hD
      have w3 := Own.fresh (o := .lst []) x12 hD
      refine comp_list (xs := (waysS B p).map V.int) (fun i τ H' => ∃ v, τ = [v, some gv, some (.ref wa), some (.ref pa)] ∧ Ext G HX G2 H' ∧ Own HX G2 H' D (.lst ((((waysS B p).take i).filter (fun y => decide (kF B (nxt p y) = prevV (verd B p)))).map V.int))) ⟨none, rfl, x3, w3⟩ ?_ ?_ ?_
      · rintro i τ H' hi ⟨v, rfl, x, _⟩
        exact SqL.of (x.gh _ _ hra)
      · rintro j x τ H' hx ⟨v, rfl, x4, w4⟩
        rw [List.getElem?_map] at hx
        cases hy : (waysS B p)[j]? with
        | none => rw [hy] at hx; cases hx
        | some y =>
          rw [hy] at hx
          have hx : V.int y = x := Option.some.inj hx
          subst hx
          have etk : ((waysS B p).take (j + 1)).filter (fun y => decide (kF B (nxt p y) = prevV (verd B p))) = ((waysS B p).take j).filter (fun y => decide (kF B (nxt p y) = prevV (verd B p))) ++ (if decide (kF B (nxt p y) = prevV (verd B p)) = true then [y] else []) := by
            exact filter_take hy
          refine ⟨_, rfl, wa, rfl, isD_t (rd_frz (x4.gh _ _ hwa2)), _, rfl, _, rfl, G2, .ref pa, p, y, rfl, x4.gh, pos_at hpa2, fun G5 H5 r5 x5 ar5 => ?_⟩
          obtain ⟨c, rfl, hc⟩ := ar5.pos
          have x45 : Ext G HX G2 H5 := x4.trans (Ext.grow x4.gh x5.hh)
          have w5 : Own HX G2 H5 D _ := ⟨w4.new, w4.apart, x5.hh _ _ w4.is⟩
          refine ⟨_, get_t (k := posK (nxt p y)) (rd_frz (x45.gh _ _ hwa2)) (x5.gh _ _ hc), _, rfl, dV (kF B (nxt p y)), _, (val_dV (tl2.at_ _)).mono x45.gh, agv2.mono x45.gh, Nat.le_trans (Nat.min_le_left _ _) (dV_depth _), _, rfl, ?_⟩
          rw [eqv_dV]
          refine ite2 (fun e => ?_) (fun e => ?_)
          · refine ⟨_, rfl, _, w5.is, ?_, _, rfl, w5.write x45, ?_⟩
            · rw [List.length_map]
              have h0 := List.length_filter_le (fun y => decide (kF B (nxt p y) = prevV (verd B p))) ((waysS B p).take j)
              rw [List.length_take] at h0
              have h1 : (waysS B p).length = (waysB B p).length := srt_len _
              have h2 := ways_61 g p
              exact small1000 (by (first | lia | omega))
            · rw [etk, if_pos e, List.map_append]
              exact w5.set
          · refine ⟨_, rfl, x45, ?_⟩
            rw [etk, if_neg e, List.append_nil]
            exact w5
      rintro τ H4 ⟨v, rfl, x4, w4⟩
      rw [List.length_map, List.take_length] at w4
      obtain ⟨y, rest, ef, em⟩ := move_head g hp hwn
      rw [ef] at w4
      rw [em] at q
      exact ⟨_, rfl, .inl ⟨D, _, 0, .int y, rfl, rfl, SqL.of w4.is, atI_nat (j := 0) rfl, q _ x4.hh⟩⟩
    -- goal
    have gk : DGet HX wa (.ref pa) (valV kvs (posK p)) := get_t (k := posK p) (rd_frz (hG _ _ hwa)) (hG _ _ hpa)
    refine ⟨_, rfl, _, rfl, wa, _, rfl, gk, _, rfl, ?_⟩
    rw [tells_is tl, kF_in hp]
    cases ev : verd B p with
    | none =>
      rw [ev] at tail
      exact iteF (tail _ _ ⟨.non, G, rfl, Ext.refl hG, .non, win_of_open ev⟩)
    | some w' =>
      obtain ⟨t, n⟩ := w'
      obtain ⟨a, ea, ha⟩ := tells_at tl (p := p) (w := (t, n)) (by rw [kF_in hp]; exact ev)
      rw [ea] at gk
      have ha1 := hG _ _ ha
      refine iteT ?_
      refine ⟨_, rfl, _, rfl, wa, .ref a, rfl, gk, .inr (.inl ⟨a, _, 1, .int (n : Int), rfl, rfl, SqT.of ha1, atI_nat (j := 1) rfl, rfl, _, rfl, ?_⟩)⟩
      rw [decV]
      refine ite2 (fun e => ?_) (fun e => ?_)
      · have e : n = 0 := by
          have := of_decide_eq_true e
          (first | lia | omega)
        cases ew : winAt B p with
        | none => exact absurd e ((win_of_verd ev).mp ew)
        | some u =>
          rw [move_none ew] at q
          exact q _ (Same.refl _)
      · have e : n ≠ 0 := fun z => e (decide_eq_true (by rw [z]; rfl))
        refine ⟨_, rfl, _, rfl, wa, .ref a, rfl, gk, .inr (.inl ⟨a, _, 0, .str (sd t), rfl, rfl, SqT.of ha1, atI_nat (j := 0) rfl, _, rfl, _, rfl, wa, .ref a, rfl, gk, .inr (.inl ⟨a, _, 1, .int (n : Int), rfl, rfl, SqT.of ha1, atI_nat (j := 1) rfl, _, _, rfl, rfl, few (by show 2 ≤ 1000; decide), fun c hc => ?_⟩)⟩)⟩
        rw [ev] at tail
        have en : ((n : Int) - 1) = ((n - 1 : Nat) : Int) := by (first | lia | omega)
        refine tail _ _ ⟨.ref c, upd G c (.tup [.str (sd t), .int ((n : Int) - 1)]), rfl, (Ext.refl hG).put hc, ?_, (win_of_verd ev).mpr e⟩
        rw [en]
        exact vd_at (w := (t, n - 1)) upd_same

/-! ### verdicts_on -/
def spVerdicts (CY CB CT : Addr) : Sp := fun vs H Q E => ∃ (G : Hp) (b : V) (R : Raw), vs = [b] ∧ Same G H ∧ At G b (rawD R) ∧ SmallR R ∧
  (fltR R = none → ∀ (G' H' : Hp) (va : Addr) (o : Obj) (kvs : List (List Key × V)), Ext G H G' H' → G' va = some (.frz o (.dT kvs)) → TellsD G' kvs (allPos (brd R).n) (vdD (brd R)) → Q (.ref va) H') ∧ (∀ H' f, Same H H' → fltR R = some f → E (.ref (clsF CY CB CT f)) none H')
theorem scVerdicts : FnScope ["board", "won", "verdicts", "position", "standing"] ["board"] (defScope sVerdicts) := ⟨rfl, rfl, rfl, by decide +kernel, rfl, by decide +kernel, by decide +kernel⟩
theorem ok_verdicts {f : Addr} {fd : FuncData} (F : Fun K "verdicts_on" "verdicts_on" sVerdicts f fd) (T : Txt mg) (L_NoYards : Kls K mg "NoYards") (L_BadYard : Kls K mg "BadYard") (L_TwiceTold : Kls K mg "TwiceTold") (C_check_board : CalX P w K mg base 2 "check_board" ["board"] (spCheck L_NoYards.C L_BadYard.C L_TwiceTold.C)) (C_won_positions : Cal P w K mg base 5 "won_positions" ["board"] spWon)
    (C_positions_of : Cal P w K mg base 1 "positions_of" ["board"] spPositions) (C_move_told : Cal P w K mg base 3 "move_told" ["board", "won", "position"] spMoveTold) : FnOk P w K mg base (CX1 P w) 6 f fd ["board"] (spVerdicts L_NoYards.C L_BadYard.C L_TwiceTold.C) := by
  refine fun_okX F scVerdicts (fun vs H Q E h => ?_) (fun cdv A outer s H vs Q E hr h => ?_)
  · obtain ⟨G, b, R, rfl, _⟩ := h
    rfl
  · obtain ⟨G, b, R, rfl, hG, hbR, sm, q, qe⟩ := h
    have hr_ : ∀ {j : Nat}, j ≤ 5 → Room j _ := fun h => hr.mono h
    refine ⟨_, (pss_cons (ps_expr (pe_call C_check_board.ok (hr_ (by decide)) rfl C_check_board.mg C_check_board.kp C_check_board.b .nil pass1 (pa_cons (pv 0) pa_nil)))
      (pss_cons (ps_set (i := 1) scVerdicts.nd rfl (Or.inl rfl) (pe_call C_won_positions.ok (hr_ (by decide)) rfl C_won_positions.mg C_won_positions.kp C_won_positions.b .nil pass0 (pa_cons (pv 0) pa_nil)))
      (pss_cons (ps_set (i := 2) scVerdicts.nd rfl (Or.inl rfl) pe_dnewT)
      (pss_cons (ps_for own1 rfl (pi_K (K := K) rfl (pe_call C_positions_of.ok (hr_ (by decide)) rfl C_positions_of.mg C_positions_of.kp C_positions_of.b .nil pass0 (pa_cons (pv 0) pa_nil))) (pg_name (i := 3) scVerdicts.nd rfl (Or.inl rfl))
       (pss_cons (ps_set (i := 4) scVerdicts.nd rfl (Or.inl rfl) (pe_dget2 (hu_of hr) (pv 1) (pv 3) (pe_tup (pa_cons pe_str (pa_cons pe_non pa_nil))) ⟨rfl, rfl, rfl, rfl⟩))
        (pss_one (ps_dput (hu_of hr) (pv 2) (pv 3) (pe_tup (pa_cons (pe_ix (ix_K (K := K) rfl) (pv 4) pe_int (fun _ _ => rfl)) (pa_cons (pe_ix (ix_K (K := K) rfl) (pv 4) pe_int (fun _ _ => rfl)) (pa_cons (pe_call C_move_told.ok (hr_ (by decide)) rfl C_move_told.mg C_move_told.kp C_move_told.b .nil pass0 (pa_cons (pv 0) (pa_cons (pv 1) (pa_cons (pv 3) pa_nil)))) pa_nil)))) rfl))))
      (pss_one (ps_ret (pe_frz (pv 2)))))))), ?_⟩
    refine ⟨_, rfl, G, b, R, rfl, hG, hbR, sm, fun H1 s1 hf => ?_, fun H1 f s1 hf => qe _ f s1 hf⟩
    obtain ⟨g, eD⟩ := raw_good hf sm
    have q := q hf
    have hb := hbR
    rw [eD] at hb
    clear hbR eD hf qe sm
    generalize brd R = B at g hb q
    have np := allPos_nodup B.n
    have f98 := few98 g
    refine ⟨_, rfl, G, b, B, rfl, hG.trans s1, hb, g, fun G2 H2 wa ow wkv wps x2 hw2 tw2 => ?_⟩
    have x02 : Ext G H G2 H2 := (Ext.grow hG s1).trans x2
    intro va hva
    have x3 := x02.lay (o := .dT []) hva
    have k3 := Own.fresh (o := .dT []) x02 hva
    generalize upd H2 va (.dT []) = H3 at x3 k3
    refine ⟨_, rfl, G2, b, B, rfl, x3.gh, hb.mono x02.gg, g, fun G4 H4 r4 x4 ar4 => ?_⟩
    cases ar4 with
    | lst hna al =>
    rename_i na lv
    have el : lv.length = (allPos B.n).length := by rw [al.length, List.length_map]
    refine ⟨na, rfl, ⟨_, SqL.of (x4.gh _ _ hna)⟩, ?_⟩
    have hw4 := x4.gg _ _ hw2
    have tw4 := tw2.mono x4.gg
    refine for_list (xs := lv) (fun i σ H' => ∃ (v3 v4 : Option V) (G5 : Hp), σ = [some b, some (.ref wa), some (.ref va), v3, v4] ∧ Same G4 G5 ∧ Ext G H G5 H' ∧ ∃ vk, Own H G5 H' va (.dT vk) ∧ TellsD G5 vk ((allPos B.n).take i) (vdD B))
      ⟨none, none, G4, rfl, Same.refl _, x3.trans x4, [], k3.ext x4, tellsD_nil⟩ ?_ ?_ ?_
    · rintro i σ H' hi ⟨v3, v4, G5, rfl, s5, x5, _⟩
      exact SqL.of (x5.gh _ _ (s5 _ _ hna))
    · rintro i x σ H' hx ⟨v3, v4, G5, rfl, s5, x5, vk, k5, t5⟩
      obtain ⟨d, hd, ad⟩ := (al.mono s5).get' hx
      rw [List.getElem?_map] at hd
      cases hq : (allPos B.n)[i]? with
      | none => rw [hq] at hd; cases hd
      | some pl =>
        rw [hq] at hd
        have hd : posD pl = d := Option.some.inj hd
        subst hd
        obtain ⟨c, rfl, hc⟩ := ad.pos
        have hnew := take_new np hq
        have hpm := List.mem_of_getElem? hq
        have hw5 := s5 _ _ hw4
        have tw5 := tw4.mono s5
        -- standing
        refine ⟨_, rfl, wa, rfl, isD_t (rd_frz (x5.gh _ _ hw5)), _, rfl, few (by show 2 ≤ 1000; decide), fun d hd => ?_⟩
        have x6 := x5.put (o := .tup [.str "open", .non]) hd
        have k6 := k5.put (u := .tup [.str "open", .non]) hd
        have s6 : Same G5 (upd G5 d (.tup [.str "open", .non])) := same_upd (x5.gh.free hd)
        have d6 : upd G5 d (.tup [.str "open", .non]) d = some (.tup [.str "open", .non]) := upd_same
        generalize upd H' d (.tup [.str "open", .non]) = H6 at x6 k6
        generalize upd G5 d (.tup [.str "open", .non]) = G6 at x6 k6 s6 d6
        have hc6 := s6 _ _ hc
        obtain ⟨sa, esa, hsa⟩ : ∃ sa, (valV wkv (posK pl)).getD (.ref d) = .ref sa ∧ G6 sa = some (.tup [.str (whoS (verd B pl)), cntV (verd B pl)]) := by
          cases ev : verd B pl with
          | none =>
            have e1 := tells_is tw5 pl
            rw [kF_in hpm, ev] at e1
            cases e2 : valV wkv (posK pl) with
            | none => exact ⟨d, rfl, d6⟩
            | some u => rw [e2] at e1; cases e1
          | some w' =>
            obtain ⟨a, ea, ha⟩ := tells_at tw5 (p := pl) (w := w') (by rw [kF_in hpm]; exact ev)
            exact ⟨a, by rw [ea]; rfl, s6 _ _ ha⟩
        refine ⟨_, get_t (k := posK pl) (rd_frz (x6.gh _ _ (s6 _ _ hw5))) (x6.gh _ _ hc6), ?_⟩
        dsimp only [gName]
        rw [esa]
        have hsa6 := x6.gh _ _ hsa
        refine ⟨_, rfl, .inr (.inl ⟨sa, _, 0, .str (whoS (verd B pl)), rfl, rfl, SqT.of hsa6, atI_nat (j := 0) rfl, _, rfl, .inr (.inl ⟨sa, _, 1, cntV (verd B pl), rfl, rfl, SqT.of hsa6, atI_nat (j := 1) rfl, _, rfl, _, rfl, _, rfl, ?_⟩)⟩)⟩
        refine ⟨G6, b, B, wa, ow, wkv, wps, .ref c, pl, rfl, x6.gh, hb.mono x6.gg, g, s6 _ _ hw5, tw5.mono s6, pos_at hc6, hpm, fun H7 s7 => ⟨few (by show 3 ≤ 1000; decide), fun e he => ?_⟩⟩
        have x7 : Ext G H G6 H7 := x6.trans (Ext.grow x6.gh s7)
        have k7 : Own H G6 H7 va (.dT vk) := ⟨k6.new, k6.apart, s7 _ _ k6.is⟩
        have x8 := x7.put (o := .tup [.str (whoS (verd B pl)), cntV (verd B pl), mvV (moveB B pl)]) he
        have k8 := k7.put (u := .tup [.str (whoS (verd B pl)), cntV (verd B pl), mvV (moveB B pl)]) he
        have s8 : Same G6 (upd G6 e (.tup [.str (whoS (verd B pl)), cntV (verd B pl), mvV (moveB B pl)])) := same_upd (x7.gh.free he)
        have a8 : At (upd G6 e (.tup [.str (whoS (verd B pl)), cntV (verd B pl), mvV (moveB B pl)])) (.ref e) (vdD B pl) := vdD_at upd_same
        have hc8 := x8.gh _ _ (s8 _ _ hc6)
        refine ⟨_, rfl, _, rfl, va, _, rfl, DPut.t k8.is (k := posK pl) hc8 (tellsD_few t5 g fun p hp => List.mem_of_mem_take hp), ?_⟩
        refine ⟨_, _, _, rfl, s5.trans (s6.trans s8), k8.write x8, _, k8.set, ?_⟩
        rw [List.take_add_one, hq]
        exact (t5.mono (s6.trans s8)).put hnew a8
    · rintro σ H' ⟨v3, v4, G5, rfl, s5, x5, vk, k5, t5⟩
      rw [el, List.take_length] at t5
      refine ⟨_, rfl, va, vk, rfl, k5.is, fun o => ?_⟩
      have k6 := k5.set (u := .frz o (.dT vk))
      exact q _ _ va o vk (k6.join (k5.write x5)) upd_same (t5.mono (same_upd k6.apart))

end
end K02

set_option Elab.async false
set_option linter.all false
set_option maxRecDepth 100000
set_option maxHeartbeats 4000000
namespace K02
open PySem L2 Fx
section
variable {P : Program} {w : World} {K : PySem.W.Frag} {mg : Str → Option Value} {base : Heap}
/-! ### what an unsound board does to the others -/
def spBad1 (CY CB CT : Addr) : Sp := fun vs H Q E => ∃ (G : Hp) (b : V) (R : Raw) (f : Flt), vs = [b] ∧ Same G H ∧ At G b (rawD R) ∧ SmallR R ∧ fltR R = some f ∧ ∀ H', Same H H' → E (.ref (clsF CY CB CT f)) none H'
def spBad2 (CY CB CT : Addr) : Sp := fun vs H Q E => ∃ (G : Hp) (b : V) (x1 : V) (R : Raw) (f : Flt), vs = [b, x1] ∧ Same G H ∧ At G b (rawD R) ∧ SmallR R ∧ fltR R = some f ∧ ∀ H', Same H H' → E (.ref (clsF CY CB CT f)) none H'
def spBad3 (CY CB CT : Addr) : Sp := fun vs H Q E => ∃ (G : Hp) (b : V) (x1 x2 : V) (R : Raw) (f : Flt), vs = [b, x1, x2] ∧ Same G H ∧ At G b (rawD R) ∧ SmallR R ∧ fltR R = some f ∧ ∀ H', Same H H' → E (.ref (clsF CY CB CT f)) none H'
def spBad4 (CY CB CT : Addr) : Sp := fun vs H Q E => ∃ (G : Hp) (b : V) (x1 x2 x3 : V) (R : Raw) (f : Flt), vs = [b, x1, x2, x3] ∧ Same G H ∧ At G b (rawD R) ∧ SmallR R ∧ fltR R = some f ∧ ∀ H', Same H H' → E (.ref (clsF CY CB CT f)) none H'
theorem scSolved : FnScope ["board", "verdicts"] ["board"] (defScope sSolved) := ⟨rfl, rfl, rfl, by decide +kernel, rfl, by decide +kernel, by decide +kernel⟩
theorem ok_solved {f : Addr} {fd : FuncData} (F : Fun K "solved" "solved" sSolved f fd) (T : Txt mg) (L_NoYards : Kls K mg "NoYards") (L_BadYard : Kls K mg "BadYard") (L_TwiceTold : Kls K mg "TwiceTold") (C_verdicts_on : CalX P w K mg base 6 "verdicts_on" ["board"] (spVerdicts L_NoYards.C L_BadYard.C L_TwiceTold.C)) : FnOk P w K mg base (CX1 P w) 7 f fd ["board"] (spBad1 L_NoYards.C L_BadYard.C L_TwiceTold.C) := by
  refine fun_okX F scSolved (fun vs H Q E h => ?_) (fun cdv A outer s H vs Q E hr h => ?_)
  · obtain ⟨G, b, R, fl, rfl, _⟩ := h
    rfl
  · obtain ⟨G, b, R, fl, rfl, hG, hb, sm, hf, qe⟩ := h
    have hr_ : ∀ {j : Nat}, j ≤ 6 → Room j _ := fun h => hr.mono h
    refine ⟨_, (pss_cons (ps_set (i := 1) scSolved.nd rfl (Or.inr rfl) (pe_call C_verdicts_on.ok (hr_ (by decide)) rfl C_verdicts_on.mg C_verdicts_on.kp C_verdicts_on.b .nil pass1 (pa_cons (pv 0) pa_nil))) pss_never), ?_⟩
    exact ⟨_, rfl, G, b, R, rfl, hG, hb, sm, fun z => (by rw [hf] at z; cases z), fun H' f' s' e => (by rw [hf] at e; cases e; exact qe _ s')⟩
theorem scTally : FnScope ["board", "verdicts", "sides"] ["board"] (defScope sTally) := ⟨rfl, rfl, rfl, by decide +kernel, rfl, by decide +kernel, by decide +kernel⟩
theorem ok_tally {f : Addr} {fd : FuncData} (F : Fun K "tally" "tally" sTally f fd) (T : Txt mg) (L_NoYards : Kls K mg "NoYards") (L_BadYard : Kls K mg "BadYard") (L_TwiceTold : Kls K mg "TwiceTold") (C_verdicts_on : CalX P w K mg base 6 "verdicts_on" ["board"] (spVerdicts L_NoYards.C L_BadYard.C L_TwiceTold.C)) : FnOk P w K mg base (CX1 P w) 7 f fd ["board"] (spBad1 L_NoYards.C L_BadYard.C L_TwiceTold.C) := by
  refine fun_okX F scTally (fun vs H Q E h => ?_) (fun cdv A outer s H vs Q E hr h => ?_)
  · obtain ⟨G, b, R, fl, rfl, _⟩ := h
    rfl
  · obtain ⟨G, b, R, fl, rfl, hG, hb, sm, hf, qe⟩ := h
    have hr_ : ∀ {j : Nat}, j ≤ 6 → Room j _ := fun h => hr.mono h
    refine ⟨_, (pss_cons (ps_set (i := 1) scTally.nd rfl (Or.inl rfl) (pe_call C_verdicts_on.ok (hr_ (by decide)) rfl C_verdicts_on.mg C_verdicts_on.kp C_verdicts_on.b .nil pass1 (pa_cons (pv 0) pa_nil))) pss_never), ?_⟩
    exact ⟨_, rfl, G, b, R, rfl, hG, hb, sm, fun z => (by rw [hf] at z; cases z), fun H' f' s' e => (by rw [hf] at e; cases e; exact qe _ s')⟩
theorem scLine : FnScope ["board", "position", "verdicts", "line", "seen", "here"] ["board", "position"] (defScope sLine) := ⟨rfl, rfl, rfl, by decide +kernel, rfl, by decide +kernel, by decide +kernel⟩
theorem ok_line {f : Addr} {fd : FuncData} (F : Fun K "line_from" "line_from" sLine f fd) (T : Txt mg) (L_NoYards : Kls K mg "NoYards") (L_BadYard : Kls K mg "BadYard") (L_TwiceTold : Kls K mg "TwiceTold") (C_verdicts_on : CalX P w K mg base 6 "verdicts_on" ["board"] (spVerdicts L_NoYards.C L_BadYard.C L_TwiceTold.C)) : FnOk P w K mg base (CX1 P w) 7 f fd ["board", "position"] (spBad2 L_NoYards.C L_BadYard.C L_TwiceTold.C) := by
  refine fun_okX F scLine (fun vs H Q E h => ?_) (fun cdv A outer s H vs Q E hr h => ?_)
  · obtain ⟨G, b, x1, R, fl, rfl, _⟩ := h
    rfl
  · obtain ⟨G, b, x1, R, fl, rfl, hG, hb, sm, hf, qe⟩ := h
    have hr_ : ∀ {j : Nat}, j ≤ 6 → Room j _ := fun h => hr.mono h
    refine ⟨_, (pss_cons (ps_set (i := 2) scLine.nd rfl (Or.inl rfl) (pe_call C_verdicts_on.ok (hr_ (by decide)) rfl C_verdicts_on.mg C_verdicts_on.kp C_verdicts_on.b .nil pass1 (pa_cons (pv 0) pa_nil))) pss_never), ?_⟩
    exact ⟨_, rfl, G, b, R, rfl, hG, hb, sm, fun z => (by rw [hf] at z; cases z), fun H' f' s' e => (by rw [hf] at e; cases e; exact qe _ s')⟩
theorem scPlayed : FnScope ["board", "position", "side", "replies", "verdicts", "game", "here", "used"] ["board", "position", "side", "replies"] (defScope sPlayed) := ⟨rfl, rfl, rfl, by decide +kernel, rfl, by decide +kernel, by decide +kernel⟩
theorem ok_played {f : Addr} {fd : FuncData} (F : Fun K "played" "played" sPlayed f fd) (T : Txt mg) (L_NoYards : Kls K mg "NoYards") (L_BadYard : Kls K mg "BadYard") (L_TwiceTold : Kls K mg "TwiceTold") (C_verdicts_on : CalX P w K mg base 6 "verdicts_on" ["board"] (spVerdicts L_NoYards.C L_BadYard.C L_TwiceTold.C)) : FnOk P w K mg base (CX1 P w) 7 f fd ["board", "position", "side", "replies"] (spBad4 L_NoYards.C L_BadYard.C L_TwiceTold.C) := by
  refine fun_okX F scPlayed (fun vs H Q E h => ?_) (fun cdv A outer s H vs Q E hr h => ?_)
  · obtain ⟨G, b, x1, x2, x3, R, fl, rfl, _⟩ := h
    rfl
  · obtain ⟨G, b, x1, x2, x3, R, fl, rfl, hG, hb, sm, hf, qe⟩ := h
    have hr_ : ∀ {j : Nat}, j ≤ 6 → Room j _ := fun h => hr.mono h
    refine ⟨_, (pss_cons (ps_set (i := 4) scPlayed.nd rfl (Or.inl rfl) (pe_call C_verdicts_on.ok (hr_ (by decide)) rfl C_verdicts_on.mg C_verdicts_on.kp C_verdicts_on.b .nil pass1 (pa_cons (pv 0) pa_nil))) pss_never), ?_⟩
    exact ⟨_, rfl, G, b, R, rfl, hG, hb, sm, fun z => (by rw [hf] at z; cases z), fun H' f' s' e => (by rw [hf] at e; cases e; exact qe _ s')⟩
theorem scJudged : FnScope ["board", "position", "moves", "verdicts", "judgements", "here", "yard", "behind"] ["board", "position", "moves"] (defScope sJudged) := ⟨rfl, rfl, rfl, by decide +kernel, rfl, by decide +kernel, by decide +kernel⟩
theorem ok_judged {f : Addr} {fd : FuncData} (F : Fun K "judged" "judged" sJudged f fd) (T : Txt mg) (L_NoYards : Kls K mg "NoYards") (L_BadYard : Kls K mg "BadYard") (L_TwiceTold : Kls K mg "TwiceTold") (C_verdicts_on : CalX P w K mg base 6 "verdicts_on" ["board"] (spVerdicts L_NoYards.C L_BadYard.C L_TwiceTold.C)) : FnOk P w K mg base (CX1 P w) 7 f fd ["board", "position", "moves"] (spBad3 L_NoYards.C L_BadYard.C L_TwiceTold.C) := by
  refine fun_okX F scJudged (fun vs H Q E h => ?_) (fun cdv A outer s H vs Q E hr h => ?_)
  · obtain ⟨G, b, x1, x2, R, fl, rfl, _⟩ := h
    rfl
  · obtain ⟨G, b, x1, x2, R, fl, rfl, hG, hb, sm, hf, qe⟩ := h
    have hr_ : ∀ {j : Nat}, j ≤ 6 → Room j _ := fun h => hr.mono h
    refine ⟨_, (pss_cons (ps_set (i := 3) scJudged.nd rfl (Or.inl rfl) (pe_call C_verdicts_on.ok (hr_ (by decide)) rfl C_verdicts_on.mg C_verdicts_on.kp C_verdicts_on.b .nil pass1 (pa_cons (pv 0) pa_nil))) pss_never), ?_⟩
    exact ⟨_, rfl, G, b, R, rfl, hG, hb, sm, fun z => (by rw [hf] at z; cases z), fun H' f' s' e => (by rw [hf] at e; cases e; exact qe _ s')⟩
/-! ### best_move -/
def spBest (CY CB CT C : Addr) : Sp := fun vs H Q E => ∃ (G : Hp) (b : V) (R : Raw) (pv : V) (p : Plc), vs = [b, pv] ∧ Same G H ∧ At G b (rawD R) ∧ SmallR R ∧ At G pv (posD p) ∧ (fltR R = none → p ∈ allPos (brd R).n ∧ moveB (brd R) p = none) ∧
  (∀ H', Same H H' → fltR R = none → E (.ref C) none H') ∧ (∀ H' f, Same H H' → fltR R = some f → E (.ref (clsF CY CB CT f)) none H')
theorem scBest : FnScope ["board", "position", "yard"] ["board", "position"] (defScope sBest) := ⟨rfl, rfl, rfl, by decide +kernel, rfl, by decide +kernel, by decide +kernel⟩
theorem ok_best {f : Addr} {fd : FuncData} (F : Fun K "best_move" "best_move" sBest f fd) (T : Txt mg) (L_NoYards : Kls K mg "NoYards") (L_BadYard : Kls K mg "BadYard") (L_TwiceTold : Kls K mg "TwiceTold") (L_AtAnEnd : Kls K mg "AtAnEnd") (C_verdicts_on : CalX P w K mg base 6 "verdicts_on" ["board"] (spVerdicts L_NoYards.C L_BadYard.C L_TwiceTold.C)) : FnOk P w K mg base (CX1 P w) 7 f fd ["board", "position"] (spBest L_NoYards.C L_BadYard.C L_TwiceTold.C L_AtAnEnd.C) := by
  refine fun_okX F scBest (fun vs H Q E h => ?_) (fun cdv A outer s H vs Q E hr h => ?_)
  · obtain ⟨G, b, R, pv, p, rfl, _⟩ := h
    rfl
  · obtain ⟨G, b, R, pv, p, rfl, hG, hb, sm, hpv, hp, q, qe⟩ := h
    have hr_ : ∀ {j : Nat}, j ≤ 6 → Room j _ := fun h => hr.mono h
    obtain ⟨pa, rfl, hpa⟩ := hpv.pos
    refine ⟨_, (pss_cons (ps_set (i := 2) scBest.nd rfl (Or.inl rfl) (pe_ix (ix_K (K := K) rfl) (pe_dget (hu_of hr) (pe_call C_verdicts_on.ok (hr_ (by decide)) rfl C_verdicts_on.mg C_verdicts_on.kp C_verdicts_on.b .nil pass1 (pa_cons (pv 0) pa_nil)) (pv 1) (fun _ _ => rfl)) pe_int (fun _ _ => rfl)))
      (pss_cons (ps_if (pt_cmp (pc_isN (pv 2)))
       (pss_one (ps_raise rfl L_AtAnEnd.mg L_AtAnEnd.ex))
       pss_nil)
      (pss_one (ps_ret (pv 2))))), ?_⟩
    refine ⟨_, rfl, G, b, R, rfl, hG, hb, sm, fun hf G1 H1 va o vkv x1 v1 t1 => ?_, fun H1 f s1 hf => qe _ f s1 hf⟩
    obtain ⟨hp, em⟩ := hp hf
    obtain ⟨vv, ev, av⟩ := t1.at_ p hp
    obtain ⟨a, rfl, ha⟩ := vdD_of av
    have dg : DGet H1 va (.ref pa) (some (.ref a)) := by
      rw [← ev]
      exact get_t (k := posK p) (rd_frz (x1.gh _ _ v1)) (x1.gh _ _ (x1.gg _ _ hpa))
    refine ⟨_, rfl, va, .ref a, rfl, dg, .inr (.inl ⟨a, _, 2, mvV (moveB (brd R) p), rfl, rfl, SqT.of (x1.gh _ _ ha), atI_nat (j := 2) rfl, ?_⟩)⟩
    refine ⟨_, rfl, _, rfl, ?_⟩
    rw [em]
    exact iteT (q _ x1.hh hf)

end
end K02

set_option Elab.async false
set_option linter.all false
set_option maxRecDepth 100000
set_option maxHeartbeats 4000000
namespace K02
open PySem L2 Fx
section
variable {P : Program} {w : World} {K : PySem.W.Frag} {mg : Str → Option Value} {base : Heap}
def spAt : Sp := fun vs H Q _ => ∃ (a : Addr) (ns : List Int) (k : Nat), vs = [.ref a, .int k] ∧ H a = some (.lst (ns.map V.int)) ∧ Q (.int (atD ns k)) H
/-! ### _law_at -/
theorem scAt : FnScope ["_law_script", "_law_k"] ["_law_script", "_law_k"] (defScope sAt) := ⟨rfl, rfl, rfl, by decide +kernel, rfl, by decide +kernel, by decide +kernel⟩
theorem ok_at {f : Addr} {fd : FuncData} (F : Fun K "_law_at" "_law_at" sAt f fd) (T : Txt mg) : FnOk P w K mg base CX0 1 f fd ["_law_script", "_law_k"] spAt := by
  refine F.ok scAt (fun vs H Q E h => ?_) (fun cdv A outer s H vs Q E hr h => ?_)
  · obtain ⟨a, ns, k, rfl, _⟩ := h
    rfl
  · obtain ⟨a, ns, k, rfl, ha, q⟩ := h
    refine ⟨_, (pss_cons (ps_if (pt_cmpR op_lt (pv 1) (pe_callB (len_K (K := K) rfl) rfl T.n_len b_len (pa_cons (pv 0) pa_nil)) (nomark _))
       (pss_one (ps_ret (pe_ix (ix_K (K := K) rfl) (pv 0) (pv 1) (fun _ _ => rfl))))
       pss_nil)
      (pss_one (ps_ret pe_int))), ?_⟩
    refine ⟨_, rfl, _, rfl, a, _, rfl, .inl (SqL.of ha), _, _, rfl, rfl, _, rfl, ?_⟩
    refine ite2 (fun hlt => ?_) (fun hge => ?_)
    · have hk : k < ns.length := by
        have := of_decide_eq_true hlt
        rw [List.length_map] at this
        (first | lia | omega)
      refine ⟨_, rfl, _, rfl, .inl ⟨a, _, (k : Int), .int (atD ns k), rfl, rfl, SqL.of ha, atI_nat ?_, q⟩⟩
      rw [List.getElem?_map, List.getElem?_eq_getElem hk]
      unfold atD
      rw [List.getD_eq_getElem?_getD, List.getElem?_eq_getElem hk]
      rfl
    · have hk : ns.length ≤ k := by
        have : ¬ ((k : Int) < ((ns.map V.int).length : Int)) := fun z => hge (decide_eq_true z)
        rw [List.length_map] at this
        (first | lia | omega)
      have e : atD ns k = 0 := by
        unfold atD
        rw [List.getD_eq_getElem?_getD, List.getElem?_eq_none hk]
        rfl
      rw [e] at q
      exact q

/-! ### _law_mixed -/
def mixI (ns : List Int) (k : Nat) : Int := (atD ns k + 7919 * (k : Int)) * 48271 % 1000003
def mixD (ns : List Int) : List Int := (List.range ns.length).map (mixI ns)
def spMixed : Sp := fun vs H Q _ => ∃ (G : Hp) (a : Addr) (ns : List Int), vs = [.ref a] ∧ Same G H ∧ G a = some (.lst (ns.map V.int)) ∧ ns.length ≤ 63 ∧
  ∀ (G' H' : Hp) (r : Addr), Ext G H G' H' → G' r = some (.lst ((mixD ns).map V.int)) → Q (.ref r) H'
theorem scMixed : FnScope ["_law_script"] ["_law_script"] (defScope sMixed) := ⟨rfl, rfl, rfl, by decide +kernel, rfl, by decide +kernel, by decide +kernel⟩
theorem ok_mixed {f : Addr} {fd : FuncData} (F : Fun K "_law_mixed" "_law_mixed" sMixed f fd) (T : Txt mg) : FnOk P w K mg base CX0 1 f fd ["_law_script"] spMixed := by
  refine F.ok scMixed (fun vs H Q E h => ?_) (fun cdv A outer s H vs Q E hr h => ?_)
  · obtain ⟨G, a, ns, rfl, _⟩ := h
    rfl
  · obtain ⟨G, a, ns, rfl, hG, ha, hlen, q⟩ := h
    refine ⟨_, (pss_one (ps_ret (pe_comp ["_law_k", "_law_script"] [none, some 0] rfl (cs_mk (N₀ := ["_law_script"]) (sc := defScope sMixed) (by decide +kernel)) (pi_range1 rfl T.n_range (pa_cons (pe_callB (len_K (K := K) rfl) rfl T.n_len b_len (pa_cons (pv 0) pa_nil)) pa_nil)) (fun _ _ _ _ _ => (pg_name (i := 0) (show (["_law_k", "_law_script"] : List Str).Nodup from by decide +kernel) rfl (Or.inl rfl))) (fun _ _ _ _ _ => pts_nil) (fun _ _ _ _ _ => (pe_op op_mod (pe_op op_mul (pe_op op_add (pe_ix (ix_K (K := K) rfl) (pv 1) (pv 0) (fun _ _ => rfl)) (pe_op op_mul pe_int (pv 0))) pe_int) pe_int))))), ?_⟩
    refine ⟨_, rfl, a, _, rfl, .inl (SqL.of (hG _ _ ha)), ((ns.map V.int).length : Int), rfl, by (first | lia | omega), by rw [List.length_map]; (first | lia | omega), fun D hD => ?_⟩
    rw [show (((ns.map V.int).length : Nat) : Int).toNat = ns.length by rw [List.length_map]; (first | lia | omega)]
    have x0 := (Ext.refl hG).lay (o := .lst []) hD
    have w0 := Own.fresh (o := .lst []) (Ext.refl hG) hD
    refine comp_range (fun i τ H' => ∃ v, τ = [v, some (.ref a)] ∧ Ext G H G H' ∧ Own H G H' D (.lst (((List.range i).map (mixI ns)).map V.int))) ⟨none, rfl, x0, w0⟩ ?_ ?_
    · rintro i τ H' hi ⟨v, rfl, x1, w1⟩
      refine tt_go ?_
      rw [show ((0 : Int) + (i : Int)) = (i : Int) by (first | lia | omega)]
      refine ⟨_, rfl, _, rfl, .inl ⟨a, _, (i : Int), _, rfl, rfl, SqL.of (x1.gh _ _ ha), atI_int hi, _, rfl, _, _, rfl, rfl, .inl ⟨by decide, by decide⟩, _, _, rfl, rfl, _, _, rfl, rfl, .inr ⟨by decide, by decide⟩, _, _, rfl, rfl, (by show (0 : Int) < 1000003; decide), _, w1.is, ?_, _, rfl, w1.write x1, ?_⟩⟩
      · rw [List.length_map, List.length_map, List.length_range]
        exact small1000 (by (first | lia | omega))
      · rw [List.range_succ, List.map_append, List.map_append]
        exact w1.set
    · rintro τ H' ⟨v, rfl, x1, w1⟩
      exact q _ _ _ (w1.join x1) upd_same

def spLaw (K : PySem.W.Frag) : Sp := fun vs H Q _ => ∃ (a : Addr) (ns : List Int), vs = [.ref a] ∧ SqL K H a (ns.map V.int) ∧ ns.length ≤ 63 ∧ ∀ H', Q (.bl true) H'

/-! ### _law_spoilt -/
def spSpoilt : Sp := fun vs H Q _ => ∃ (G : Hp) (b : V) (R : Raw) (way seed : Int), vs = [b, .int way, .int seed] ∧ Same G H ∧ At G b (rawD R) ∧ 1 ≤ R.c ∧ R.c ≤ 7 ∧ R.lanes.length ≤ 61 ∧ R.coops.length ≤ 7 ∧
  ∀ (G' H' : Hp) (r : V) (R' : Raw), Ext G H G' H' → At G' r (rawD R') → SmallR R' → Q r H'
theorem scSpoilt : FnScope ["_law_board", "_law_way", "_law_seed", "_law_count", "_law_lanes", "_law_coops", "_law_menu", "_law_lane", "_law_yard"] ["_law_board", "_law_way", "_law_seed"] (defScope sSpoilt) := ⟨rfl, rfl, rfl, by decide +kernel, rfl, by decide +kernel, by decide +kernel⟩
theorem ok_spoilt {f : Addr} {fd : FuncData} (F : Fun K "_law_spoilt" "_law_spoilt" sSpoilt f fd) (T : Txt mg) : FnOk P w K mg base CX0 1 f fd ["_law_board", "_law_way", "_law_seed"] spSpoilt := by
  refine F.ok scSpoilt (fun vs H Q E h => ?_) (fun cdv A outer s H vs Q E hr h => ?_)
  · obtain ⟨G, b, R, way, seed, rfl, _⟩ := h
    rfl
  · obtain ⟨G, b, R, way, seed, rfl, hG, hb, hc1, hc7, hl, hk, q⟩ := h
    refine ⟨_, (pss_cons (ps_asg (pv 0) (pgTup_K (K := K) 3 rfl rfl (pgs_cons (pg_name (i := 3) scSpoilt.nd rfl (Or.inl rfl)) (pgs_cons (pg_name (i := 4) scSpoilt.nd rfl (Or.inl rfl)) (pgs_cons (pg_name (i := 5) scSpoilt.nd rfl (Or.inl rfl)) pgs_nil)))))
      (pss_cons (ps_if (PW.pt (pw_and (pt_cmpR op_eq (pe_op op_mod (pv 1) pe_int) pe_int (nomark _)) (pw_and1 (pt_cmpR (op_neD hr) (pv 4) (pe_lst pa_nil) (nomark _)))))
       (pss_one (ps_set (i := 4) scSpoilt.nd rfl (Or.inl rfl) (pe_op op_cat (pv 4) (pe_lst (pa_cons (pe_ix (ix_K (K := K) rfl) (pv 4) (pe_op op_mod (pv 2) (pe_callB (len_K (K := K) rfl) rfl T.n_len b_len (pa_cons (pv 4) pa_nil))) (fun _ _ => rfl)) pa_nil)))))
       pss_nil)
      (pss_cons (ps_if (pt_cmpR op_eq (pe_op op_mod (pe_op op_fdiv (pv 1) pe_int) pe_int) pe_int (nomark _))
       (pss_cons (ps_set (i := 6) scSpoilt.nd rfl (Or.inl rfl) (pe_lst (pa_cons (pv 3) (pa_cons (pe_un un_neg pe_int) (pa_cons pe_int (pa_cons (pe_op op_sub (pe_un un_neg pe_int) (pe_op op_mod (pe_op op_fdiv (pv 2) pe_int) (pe_op op_add (pv 3) pe_int))) (pa_cons (pe_op op_add (pv 3) pe_int) pa_nil)))))))
        (pss_cons (ps_set (i := 7) scSpoilt.nd rfl (Or.inl rfl) (pe_tup (pa_cons (pe_op op_mod (pe_op op_fdiv (pv 2) pe_int) (pv 3)) (pa_cons (pe_ix (ix_K (K := K) rfl) (pv 6) (pe_op op_mod (pe_op op_fdiv (pv 2) pe_int) pe_int) (fun _ _ => rfl)) pa_nil))))
        (pss_cons (ps_set (i := 7) scSpoilt.nd rfl (Or.inl rfl) (pe_ix (ix_K (K := K) rfl) (pe_lst (pa_cons (pv 7) (pa_cons (pe_tup (pa_cons (pe_ix (ix_K (K := K) rfl) (pv 7) pe_int (fun _ _ => rfl)) (pa_cons (pe_ix (ix_K (K := K) rfl) (pv 7) pe_int (fun _ _ => rfl)) pa_nil))) pa_nil))) (pe_op op_mod (pe_op op_fdiv (pv 2) pe_int) pe_int) (fun _ _ => rfl)))
        (pss_one (ps_set (i := 4) scSpoilt.nd rfl (Or.inl rfl) (pe_ix (ix_K (K := K) rfl) (pe_lst (pa_cons (pe_op op_cat (pv 4) (pe_lst (pa_cons (pv 7) pa_nil))) (pa_cons (pe_op op_cat (pe_lst (pa_cons (pv 7) pa_nil)) (pv 4)) pa_nil))) (pe_op op_mod (pe_op op_fdiv (pv 2) pe_int) pe_int) (fun _ _ => rfl)))))))
       pss_nil)
      (pss_cons (ps_if (pt_cmpR op_eq (pe_op op_mod (pe_op op_fdiv (pv 1) pe_int) pe_int) pe_int (nomark _))
       (pss_cons (ps_set (i := 8) scSpoilt.nd rfl (Or.inl rfl) (pe_ix (ix_K (K := K) rfl) (pe_lst (pa_cons (pv 3) (pa_cons (pe_un un_neg pe_int) (pa_cons pe_int (pa_cons (pe_op op_sub (pe_un un_neg pe_int) (pe_op op_mod (pe_op op_fdiv (pv 2) pe_int) (pe_op op_add (pv 3) pe_int))) pa_nil))))) (pe_op op_mod (pe_op op_fdiv (pv 2) pe_int) pe_int) (fun _ _ => rfl)))
        (pss_one (ps_set (i := 5) scSpoilt.nd rfl (Or.inl rfl) (pe_ix (ix_K (K := K) rfl) (pe_lst (pa_cons (pe_op op_cat (pv 5) (pe_lst (pa_cons (pv 8) pa_nil))) (pa_cons (pe_op op_cat (pe_lst (pa_cons (pv 8) pa_nil)) (pv 5)) pa_nil))) (pe_op op_mod (pe_op op_fdiv (pv 2) pe_int) pe_int) (fun _ _ => rfl)))))
       pss_nil)
      (pss_cons (ps_if (PW.pt (pw_and (pt_cmpR op_eq (pe_op op_mod (pe_op op_fdiv (pv 1) pe_int) pe_int) pe_int (nomark _)) (pw_and1 (pt_cmpR (op_neD hr) (pv 5) (pe_lst pa_nil) (nomark _)))))
       (pss_one (ps_set (i := 5) scSpoilt.nd rfl (Or.inl rfl) (pe_op op_cat (pv 5) (pe_lst (pa_cons (pe_ix (ix_K (K := K) rfl) (pv 5) pe_int (fun _ _ => rfl)) pa_nil)))))
       pss_nil)
      (pss_cons (ps_if (pt_cmpR op_eq (pe_op op_mod (pe_op op_fdiv (pv 1) pe_int) pe_int) pe_int (nomark _))
       (pss_one (ps_set (i := 3) scSpoilt.nd rfl (Or.inl rfl) (pe_op op_sub pe_int (pe_op op_mod (pv 2) pe_int))))
       pss_nil)
      (pss_one (ps_ret (pe_tup (pa_cons (pv 3) (pa_cons (pv 4) (pa_cons (pv 5) pa_nil)))))))))))), ?_⟩
    obtain ⟨p, la, ca, ls, rfl, hp, hla, als, hca⟩ := hb.raw
    refine ⟨_, rfl, p, _, rfl, SqT.of (hG _ _ hp), rfl, ?_⟩
    have s0 : splP G H (.ref p) way seed R.c 61 7 [some (.ref p), some (.int way), some (.int seed), some (.int R.c), some (.ref la), some (.ref ca), none, none, none] H := ⟨la, ca, none, none, none, G, rfl, Ext.refl hG, ⟨ls, R.lanes, hla, als, hl⟩, ⟨R.coops, hca, hk⟩⟩
    clear hp hla als hca hl hk hb
    generalize R.c = c at *
    refine ⟨_, _, rfl, _, _, rfl, _, _, rfl, rfl, ?_⟩
    dsimp only
    -- a lane twice
    refine seq_cut (splP G H (.ref p) way seed c 62 7) ?_ (fun nx tail => ?_)
    rotate_left
    · clear q
      refine ⟨_, rfl, _, _, rfl, rfl, (by show (0 : Int) < 2; decide), rfl, _, rfl, ?_⟩
      rw [decV]
      have stay : splP G H (.ref p) way seed c 62 7 [some (.ref p), some (.int way), some (.int seed), some (.int c), some (.ref la), some (.ref ca), none, none, none] H := by
        obtain ⟨la, ca, v6, v7, v8, G1, e, x, ⟨ls, lanes, h1, h2, h3⟩, hc⟩ := s0
        exact ⟨la, ca, v6, v7, v8, G1, e, x, ⟨ls, lanes, h1, h2, by (first | lia | omega)⟩, hc⟩
      refine ite2 (fun e => ?_) (fun e => iteF (tail _ _ stay))
      clear stay
      obtain ⟨la, ca, v6, v7, v8, G1, e, x, ⟨ls, lanes, h1, h2, h3⟩, coops, h4, h5⟩ := s0
      cases e
      refine ⟨_, rfl, by decide, fun q1 hq1 => ?_⟩
      have x1 := x.lay (o := .lst []) hq1
      have l1 : upd H q1 (.lst []) q1 = some (.lst []) := upd_same
      generalize upd H q1 (.lst []) = H1 at x1 l1
      refine ⟨.list (lanes.map laneD), .list [], .lst (x1.gh _ _ h1) (h2.mono x1.gh), .lst l1 .nil, Nat.le_trans (Nat.min_le_right _ _) (by rw [nil_depth]; decide), _, rfl, ?_⟩
      rw [eqv_nil]
      by_cases hz : lanes = []
      · rw [decide_eq_true (show lanes.map laneD = [] by rw [hz]; rfl)]
        exact iteF (tail _ _ ⟨la, ca, _, _, _, G1, rfl, x1, ⟨ls, lanes, h1, h2, by (first | lia | omega)⟩, coops, h4, h5⟩)
      rw [decide_eq_false (show ¬ lanes.map laneD = [] from fun z => hz (List.map_eq_nil_iff.mp z))]
      refine iteT ?_
      have el : ls.length = lanes.length := by rw [h2.length, List.length_map]
      have hpos : 0 < lanes.length := List.length_pos_iff.mpr hz
      obtain ⟨k, hk, ek⟩ := mod_nat (z := seed) (n := ls.length) (by (first | lia | omega))
      obtain ⟨y, l, hy, hl, al⟩ := pick_at h2 (k := k) (by (first | lia | omega))
      refine ⟨_, rfl, _, rfl, _, rfl, _, rfl, la, _, rfl, .inl (SqL.of (x1.gh _ _ h1)), _, _, rfl, rfl, (by (first | lia | omega)), .inl ⟨la, _, _, y, rfl, rfl, SqL.of (x1.gh _ _ h1), (by rw [ek]; exact atI_nat hy), few (by show 1 ≤ 1000; decide), fun l1 hl1 => ?_⟩⟩
      have x2 := x1.lay (o := .lst [y]) hl1
      have hl2 : upd H1 l1 (.lst [y]) l1 = some (.lst [y]) := upd_same
      generalize upd H1 l1 (.lst [y]) = H2 at x2 hl2
      refine ⟨la, l1, _, _, rfl, rfl, x2.gh _ _ h1, hl2, few (by show ls.length + 1 ≤ 1000; (first | lia | omega)), fun l3 hl3 => ?_⟩
      have s3 : Same G1 (upd G1 l3 (.lst (ls ++ [y]))) := same_upd (x2.gh.free hl3)
      refine tail _ _ ⟨l3, ca, _, _, _, _, rfl, x2.put hl3, ⟨ls ++ [y], lanes ++ [l], upd_same, ?_, ?_⟩, coops, s3 _ _ h4, h5⟩
      · rw [List.map_append]
        exact (h2.mono s3).append (.one (al.mono s3))
      · rw [List.length_append]
        show lanes.length + 1 ≤ 62
        (first | lia | omega)
    -- a lane with a stranger
    clear s0
    rintro σ H0 ⟨la, ca, v6, v7, v8, G0, rfl, s0⟩
    refine seq_cut (splP G H (.ref p) way seed c 63 7) ?_ (fun nx tail => ?_)
    rotate_left
    · clear q
      obtain ⟨x, ⟨ls, lanes, h1, h2, h3⟩, coops, h4, h5⟩ := s0
      refine if_dm rfl ⟨by decide, by decide⟩ (by decide) ?_ (tail _ _ ⟨la, ca, v6, v7, v8, G0, rfl, x, ⟨ls, lanes, h1, h2, by (first | lia | omega)⟩, coops, h4, h5⟩)
      have el : ls.length = lanes.length := by rw [h2.length, List.length_map]
      -- menu
      refine ⟨_, rfl, _, rfl, _, rfl, _, rfl, _, _, rfl, rfl, ⟨by decide, by decide⟩, _, rfl, _, _, rfl, rfl, _, _, rfl, rfl, (by (first | lia | omega)), _, _, rfl, rfl, _, rfl, _, _, rfl, rfl, few (by show 5 ≤ 1000; decide), fun l1 hl1 => ?_⟩
      dsimp only [gName]
      generalize hz : -2 - seed / 10 % (c + 1) = z at *
      have x1 := x.lay (o := .lst [.int c, .int (-1), .int 1000000000000, .int z, .int (c + 1)]) hl1
      have m1 : upd H0 l1 (.lst [.int c, .int (-1), .int 1000000000000, .int z, .int (c + 1)]) l1 = some (.lst (([c, -1, 1000000000000, z, c + 1] : List Int).map V.int)) := upd_same
      generalize upd H0 l1 (.lst [.int c, .int (-1), .int 1000000000000, .int z, .int (c + 1)]) = H1 at x1 m1
      obtain ⟨y, hy⟩ := pickI (ns := [c, -1, 1000000000000, z, c + 1]) (seed / 2) (n := 5) (by decide) rfl
      -- the lane
      refine ⟨_, rfl, _, _, rfl, rfl, ⟨by decide, by decide⟩, _, rfl, _, _, rfl, rfl, (by (first | lia | omega)), _, rfl, _, rfl, _, _, rfl, rfl, ⟨by decide, by decide⟩, _, _, rfl, rfl, (by show (0 : Int) < 5; decide), .inl ⟨l1, _, _, .int y, rfl, rfl, SqL.of m1, hy, few (by show 2 ≤ 1000; decide), fun t1 ht1 => ?_⟩⟩
      dsimp only [gName]
      generalize seed / 16 % c = u at *
      have x2 := x1.put (o := .tup [.int u, .int y]) ht1
      have s2 : Same G0 (upd G0 t1 (.tup [.int u, .int y])) := same_upd (x1.gh.free ht1)
      have c2 : upd G0 t1 (.tup [.int u, .int y]) t1 = some (.tup [.int u, .int y]) := upd_same
      generalize upd H1 t1 (.tup [.int u, .int y]) = H2 at x2
      generalize upd G0 t1 (.tup [.int u, .int y]) = G2 at x2 s2 c2
      -- turned or not
      refine ⟨_, rfl, _, rfl, .inr (.inl ⟨t1, _, 1, .int y, rfl, rfl, SqT.of (x2.gh _ _ c2), atI_nat (j := 1) rfl, _, rfl, .inr (.inl ⟨t1, _, 0, .int u, rfl, rfl, SqT.of (x2.gh _ _ c2), atI_nat (j := 0) rfl, few (by show 2 ≤ 1000; decide), fun t2 ht2 => ⟨few (by show 2 ≤ 1000; decide), fun l3 hl3 => ?_⟩⟩)⟩)⟩
      have x3 := x2.put (o := .tup [.int y, .int u]) ht2
      have s3 : Same G2 (upd G2 t2 (.tup [.int y, .int u])) := same_upd (x2.gh.free ht2)
      have c3 : upd G2 t2 (.tup [.int y, .int u]) t2 = some (.tup [.int y, .int u]) := upd_same
      generalize upd H2 t2 (.tup [.int y, .int u]) = H3 at x3 hl3
      generalize upd G2 t2 (.tup [.int y, .int u]) = G3 at x3 s3 c3
      have x4 := x3.lay (o := .lst [.ref t1, .ref t2]) hl3
      have m4 : upd H3 l3 (.lst [.ref t1, .ref t2]) l3 = some (.lst [.ref t1, .ref t2]) := upd_same
      generalize upd H3 l3 (.lst [.ref t1, .ref t2]) = H4 at x4 m4
      obtain ⟨t, ht, hor⟩ := pick2 (.ref t1) (.ref t2) (seed / 4)
      obtain ⟨l, al⟩ : ∃ l, At G3 t (laneD l) := by
        rcases hor with rfl | rfl
        · exact ⟨_, (lane_at c2).mono s3⟩
        · exact ⟨_, lane_at c3⟩
      refine te_dm rfl ⟨by decide, by decide⟩ (by decide) (.inl ⟨l3, _, _, t, rfl, rfl, SqL.of m4, ht, ?_⟩)
      dsimp only [gName]
      clear hor ht m4 c2 c3 m1 hy
      have s03 := s2.trans s3
      have h1 := s03 _ _ h1
      have h2 := h2.mono s03
      have h4 := s03 _ _ h4
      -- ahead or behind
      refine ⟨_, rfl, _, rfl, few (by show 1 ≤ 1000; decide), fun l5 hl5 => ?_⟩
      have x5 := x4.lay (o := .lst [t]) hl5
      have m5 : upd H4 l5 (.lst [t]) l5 = some (.lst [t]) := upd_same
      generalize upd H4 l5 (.lst [t]) = H5 at x5 m5
      refine ⟨la, l5, _, _, rfl, rfl, x5.gh _ _ h1, m5, few (by show ls.length + 1 ≤ 1000; (first | lia | omega)), fun l6 hl6 => ?_⟩
      have x6 := x5.put (o := .lst (ls ++ [t])) hl6
      have s6 : Same G3 (upd G3 l6 (.lst (ls ++ [t]))) := same_upd (x5.gh.free hl6)
      have m6 : upd G3 l6 (.lst (ls ++ [t])) l6 = some (.lst (ls ++ [t])) := upd_same
      generalize upd H5 l6 (.lst (ls ++ [t])) = H6 at x6
      generalize upd G3 l6 (.lst (ls ++ [t])) = G6 at x6 s6 m6
      refine ⟨_, rfl, few (by show 1 ≤ 1000; decide), fun l7 hl7 => ?_⟩
      have x7 := x6.lay (o := .lst [t]) hl7
      have m7 : upd H6 l7 (.lst [t]) l7 = some (.lst [t]) := upd_same
      generalize upd H6 l7 (.lst [t]) = H7 at x7 m7
      refine ⟨_, rfl, l7, la, _, _, rfl, rfl, m7, x7.gh _ _ (s6 _ _ h1), few (by show 1 + ls.length ≤ 1000; (first | lia | omega)), fun l8 hl8 => ⟨few (by show 2 ≤ 1000; decide), fun l9 hl9 => ?_⟩⟩
      have x8 := x7.put (o := .lst ([t] ++ ls)) hl8
      have s8 : Same G6 (upd G6 l8 (.lst ([t] ++ ls))) := same_upd (x7.gh.free hl8)
      have m8 : upd G6 l8 (.lst ([t] ++ ls)) l8 = some (.lst ([t] ++ ls)) := upd_same
      generalize upd H7 l8 (.lst ([t] ++ ls)) = H8 at x8 hl9
      generalize upd G6 l8 (.lst ([t] ++ ls)) = G8 at x8 s8 m8
      have x9 := x8.lay (o := .lst [.ref l6, .ref l8]) hl9
      have m9 : upd H8 l9 (.lst [.ref l6, .ref l8]) l9 = some (.lst [.ref l6, .ref l8]) := upd_same
      generalize upd H8 l9 (.lst [.ref l6, .ref l8]) = H9 at x9 m9
      obtain ⟨r, hr', hor⟩ := pick2 (.ref l6) (.ref l8) (seed / 8)
      have h4' := s8 _ _ (s6 _ _ h4)
      have s38 := s6.trans s8
      refine te_dm rfl ⟨by decide, by decide⟩ (by decide) (.inl ⟨l9, _, _, r, rfl, rfl, SqL.of m9, hr', ?_⟩)
      rcases hor with rfl | rfl
      · refine tail _ _ ⟨l6, ca, _, _, _, G8, rfl, x9, ⟨ls ++ [t], lanes ++ [l], s8 _ _ m6, ?_, ?_⟩, coops, h4', h5⟩
        · rw [List.map_append]
          exact (h2.mono s38).append (.one (al.mono s38))
        · rw [List.length_append]
          show lanes.length + 1 ≤ 63
          (first | lia | omega)
      · refine tail _ _ ⟨l8, ca, _, _, _, G8, rfl, x9, ⟨[t] ++ ls, [l] ++ lanes, m8, ?_, ?_⟩, coops, h4', h5⟩
        · rw [List.map_append]
          exact AtAll.append (.one (al.mono s38)) (h2.mono s38)
        · rw [List.length_append]
          show 1 + lanes.length ≤ 63
          (first | lia | omega)
    -- a coop that is none
    clear s0
    rintro σ H0 ⟨la, ca, v6, v7, v8, G0, rfl, s0⟩
    refine seq_cut (splP G H (.ref p) way seed c 63 8) ?_ (fun nx tail => ?_)
    rotate_left
    · clear q
      obtain ⟨x, ⟨ls, lanes, h1, h2, h3⟩, coops, h4, h5⟩ := s0
      refine if_dm rfl ⟨by decide, by decide⟩ (by decide) ?_ (tail _ _ ⟨la, ca, v6, v7, v8, G0, rfl, x, ⟨ls, lanes, h1, h2, by (first | lia | omega)⟩, coops, h4, by (first | lia | omega)⟩)
      refine ⟨_, rfl, _, rfl, _, rfl, _, rfl, _, _, rfl, rfl, ⟨by decide, by decide⟩, _, rfl, _, _, rfl, rfl, _, _, rfl, rfl, (by (first | lia | omega)), _, _, rfl, rfl, few (by show 4 ≤ 1000; decide), fun l1 hl1 => ?_⟩
      dsimp only [gName]
      generalize hz : -2 - seed / 10 % (c + 1) = z at *
      have x1 := x.lay (o := .lst [.int c, .int (-1), .int 1000000000000, .int z]) hl1
      have m1 : upd H0 l1 (.lst [.int c, .int (-1), .int 1000000000000, .int z]) l1 = some (.lst (([c, -1, 1000000000000, z] : List Int).map V.int)) := upd_same
      generalize upd H0 l1 (.lst [.int c, .int (-1), .int 1000000000000, .int z]) = H1 at x1 m1
      obtain ⟨y, hy⟩ := pickI (ns := [c, -1, 1000000000000, z]) (seed / 2) (n := 4) (by decide) rfl
      refine te_dm rfl ⟨by decide, by decide⟩ (by decide) (.inl ⟨l1, _, _, .int y, rfl, rfl, SqL.of m1, hy, ?_⟩)
      dsimp only [gName]
      -- ahead or behind
      refine ⟨_, rfl, _, rfl, few (by show 1 ≤ 1000; decide), fun l5 hl5 => ?_⟩
      have x5 := x1.lay (o := .lst [.int y]) hl5
      have m5 : upd H1 l5 (.lst [.int y]) l5 = some (.lst [.int y]) := upd_same
      generalize upd H1 l5 (.lst [.int y]) = H5 at x5 m5
      refine ⟨ca, l5, _, _, rfl, rfl, x5.gh _ _ h4, m5, few (by rw [List.length_map]; show coops.length + 1 ≤ 1000; (first | lia | omega)), fun l6 hl6 => ?_⟩
      have x6 := x5.put (o := .lst (coops.map V.int ++ [.int y])) hl6
      have s6 : Same G0 (upd G0 l6 (.lst (coops.map V.int ++ [.int y]))) := same_upd (x5.gh.free hl6)
      have m6 : upd G0 l6 (.lst (coops.map V.int ++ [.int y])) l6 = some (.lst ((coops ++ [y]).map V.int)) := by rw [List.map_append]; exact upd_same
      generalize upd H5 l6 (.lst (coops.map V.int ++ [.int y])) = H6 at x6
      generalize upd G0 l6 (.lst (coops.map V.int ++ [.int y])) = G6 at x6 s6 m6
      refine ⟨_, rfl, few (by show 1 ≤ 1000; decide), fun l7 hl7 => ?_⟩
      have x7 := x6.lay (o := .lst [.int y]) hl7
      have m7 : upd H6 l7 (.lst [.int y]) l7 = some (.lst [.int y]) := upd_same
      generalize upd H6 l7 (.lst [.int y]) = H7 at x7 m7
      refine ⟨_, rfl, l7, ca, _, _, rfl, rfl, m7, x7.gh _ _ (s6 _ _ h4), few (by rw [List.length_map]; show 1 + coops.length ≤ 1000; (first | lia | omega)), fun l8 hl8 => ⟨few (by show 2 ≤ 1000; decide), fun l9 hl9 => ?_⟩⟩
      have x8 := x7.put (o := .lst ([.int y] ++ coops.map V.int)) hl8
      have s8 : Same G6 (upd G6 l8 (.lst ([.int y] ++ coops.map V.int))) := same_upd (x7.gh.free hl8)
      have m8 : upd G6 l8 (.lst ([.int y] ++ coops.map V.int)) l8 = some (.lst (([y] ++ coops).map V.int)) := by rw [List.map_append]; exact upd_same
      generalize upd H7 l8 (.lst ([.int y] ++ coops.map V.int)) = H8 at x8 hl9
      generalize upd G6 l8 (.lst ([.int y] ++ coops.map V.int)) = G8 at x8 s8 m8
      have x9 := x8.lay (o := .lst [.ref l6, .ref l8]) hl9
      have m9 : upd H8 l9 (.lst [.ref l6, .ref l8]) l9 = some (.lst [.ref l6, .ref l8]) := upd_same
      generalize upd H8 l9 (.lst [.ref l6, .ref l8]) = H9 at x9 m9
      obtain ⟨r, hr', hor⟩ := pick2 (.ref l6) (.ref l8) (seed / 8)
      have s38 := s6.trans s8
      refine te_dm rfl ⟨by decide, by decide⟩ (by decide) (.inl ⟨l9, _, _, r, rfl, rfl, SqL.of m9, hr', ?_⟩)
      rcases hor with rfl | rfl
      · refine tail _ _ ⟨la, l6, _, _, _, G8, rfl, x9, ⟨ls, lanes, s38 _ _ h1, h2.mono s38, h3⟩, coops ++ [y], s8 _ _ m6, ?_⟩
        rw [List.length_append]
        show coops.length + 1 ≤ 8
        (first | lia | omega)
      · refine tail _ _ ⟨la, l8, _, _, _, G8, rfl, x9, ⟨ls, lanes, s38 _ _ h1, h2.mono s38, h3⟩, [y] ++ coops, m8, ?_⟩
        rw [List.length_append]
        show 1 + coops.length ≤ 8
        (first | lia | omega)
    -- a coop twice
    clear s0
    rintro σ H0 ⟨la, ca, v6, v7, v8, G0, rfl, s0⟩
    refine seq_cut (splP G H (.ref p) way seed c 63 9) ?_ (fun nx tail => ?_)
    rotate_left
    · clear q
      obtain ⟨x, ⟨ls, lanes, h1, h2, h3⟩, coops, h4, h5⟩ := s0
      refine ⟨_, rfl, _, _, rfl, rfl, ⟨by decide, by decide⟩, _, _, rfl, rfl, (by show (0 : Int) < 3; decide), rfl, _, rfl, ?_⟩
      rw [decV]
      refine ite2 (fun e => ?_) (fun e => iteF (tail _ _ ⟨la, ca, v6, v7, v8, G0, rfl, x, ⟨ls, lanes, h1, h2, by (first | lia | omega)⟩, coops, h4, by (first | lia | omega)⟩))
      clear e
      refine ⟨_, rfl, by decide, fun q1 hq1 => ?_⟩
      have x1 := x.lay (o := .lst []) hq1
      have l1 : upd H0 q1 (.lst []) q1 = some (.lst []) := upd_same
      generalize upd H0 q1 (.lst []) = H1 at x1 l1
      refine ⟨.list (coops.map .int), .list [], .lst (x1.gh _ _ h4) (AtAll.ints _), .lst l1 .nil, Nat.le_trans (Nat.min_le_right _ _) (by rw [nil_depth]; decide), _, rfl, ?_⟩
      rw [eqv_nil]
      cases coops with
      | nil => exact iteF (tail _ _ ⟨la, ca, _, _, _, G0, rfl, x1, ⟨ls, lanes, h1, h2, by (first | lia | omega)⟩, [], h4, by show 0 ≤ 9; decide⟩)
      | cons z zs =>
        rw [decide_eq_false (show ¬ (z :: zs).map PyData.int = [] from fun z => nomatch z)]
        refine iteT ?_
        have hlen : zs.length + 1 ≤ 8 := h5
        refine ⟨_, rfl, _, rfl, .inl ⟨ca, _, 0, .int z, rfl, rfl, SqL.of (x1.gh _ _ h4), atI_nat (j := 0) rfl, few (by show 1 ≤ 1000; decide), fun l2 hl2 => ?_⟩⟩
        have x2 := x1.lay (o := .lst [.int z]) hl2
        have m2 : upd H1 l2 (.lst [.int z]) l2 = some (.lst [.int z]) := upd_same
        generalize upd H1 l2 (.lst [.int z]) = H2 at x2 m2
        refine ⟨ca, l2, _, _, rfl, rfl, x2.gh _ _ h4, m2, few (by rw [List.length_map]; show zs.length + 1 + 1 ≤ 1000; (first | lia | omega)), fun l3 hl3 => ?_⟩
        have s3 : Same G0 (upd G0 l3 (.lst ((z :: zs).map V.int ++ [.int z]))) := same_upd (x2.gh.free hl3)
        refine tail _ _ ⟨la, l3, _, _, _, _, rfl, x2.put hl3, ⟨ls, lanes, s3 _ _ h1, h2.mono s3, h3⟩, (z :: zs) ++ [z], ?_, ?_⟩
        · rw [List.map_append]
          exact upd_same
        · rw [List.length_append]
          show zs.length + 1 + 1 ≤ 9
          (first | lia | omega)
    -- the count
    clear s0
    rintro σ H0 ⟨la, ca, v6, v7, v8, G0, rfl, s0⟩
    obtain ⟨x, ⟨ls, lanes, h1, h2, h3⟩, coops, h4, h5⟩ := s0
    have fin : ∀ c' : Int, c' ≤ 7 → tRet (tTup (tCons (tVar 3) (tCons (tVar 4) (tCons (tVar 5) tNil)))) { nx := fun _ H' => Q .non H', rt := Q } [some (.ref p), some (.int way), some (.int seed), some (.int c'), some (.ref la), some (.ref ca), v6, v7, v8] H0 := by
      intro c' hc'
      refine ⟨_, rfl, _, rfl, _, rfl, few (by show 3 ≤ 1000; decide), fun r hr => ?_⟩
      have s3 : Same G0 (upd G0 r (.tup [.int c', .ref la, .ref ca])) := same_upd (x.gh.free hr)
      exact q _ _ _ ⟨c', lanes, coops⟩ (x.put hr) (raw_at upd_same (s3 _ _ h1) (h2.mono s3) (s3 _ _ h4)) ⟨hc', h3, by show coops.length ≤ 20; (first | lia | omega)⟩
    refine if_dm rfl ⟨by decide, by decide⟩ (by decide) ?_ (fin c hc7)
    refine ⟨_, rfl, _, _, rfl, rfl, (by show (0 : Int) < 2; decide), _, _, rfl, rfl, ?_⟩
    exact fin _ (by (first | lia | omega))

end
end K02

set_option Elab.async false
set_option linter.all false
set_option maxRecDepth 100000
set_option maxHeartbeats 4000000
namespace K02
open PySem L2 Fx
section
variable {P : Program} {w : World} {K : PySem.W.Frag} {mg : Str → Option Value} {base : Heap}
/-! ### _law_refusal -/
def spRefusal : Sp := fun vs H Q _ => ∃ (G : Hp) (b : V) (R : Raw), vs = [b] ∧ Same G H ∧ At G b (rawD R) ∧ SmallR R ∧ ∀ H', Same H H' → Q (.str (wordF (fltR R))) H'
theorem scRefusal : FnScope ["_law_board", "_law_count", "_law_lanes", "_law_coops", "_law_ends", "_law_row", "_law_k"] ["_law_board"] (defScope sRefusal) := ⟨rfl, rfl, rfl, by decide +kernel, rfl, by decide +kernel, by decide +kernel⟩
theorem ok_refusal {f : Addr} {fd : FuncData} (F : Fun K "_law_refusal" "_law_refusal" sRefusal f fd) (T : Txt mg) : FnOk P w K mg base CX0 1 f fd ["_law_board"] spRefusal := by
  refine F.ok scRefusal (fun vs H Q E h => ?_) (fun cdv A outer s H vs Q E hr h => ?_)
  · obtain ⟨G, b, R, rfl, _⟩ := h
    rfl
  · obtain ⟨G, b, R, rfl, hG, hb, sm, q⟩ := h
    refine ⟨_, (pss_cons (ps_asg (pv 0) (pgTup_K (K := K) 3 rfl rfl (pgs_cons (pg_name (i := 1) scRefusal.nd rfl (Or.inr rfl)) (pgs_cons (pg_name (i := 2) scRefusal.nd rfl (Or.inl rfl)) (pgs_cons (pg_name (i := 3) scRefusal.nd rfl (Or.inl rfl)) pgs_nil)))))
      (pss_cons (ps_if (pt_cmpR op_lt (pv 1) pe_int (nomark _))
       (pss_one (ps_ret pe_str))
       pss_nil)
      (pss_cons (ps_set (i := 4) scRefusal.nd rfl (Or.inl rfl) (pe_op op_cat (pe_op op_cat (pv 3) (pe_comp ["_law_lane"] [none] rfl (cs_mk (N₀ := ["_law_board", "_law_count", "_law_lanes", "_law_coops", "_law_ends", "_law_row", "_law_k"]) (sc := defScope sRefusal) (by decide +kernel)) (pi_K (K := K) rfl (pv 2)) (fun _ _ _ _ _ => (pg_name (i := 0) (show (["_law_lane"] : List Str).Nodup from by decide +kernel) rfl (Or.inl rfl))) (fun _ _ _ _ _ => pts_nil) (fun _ _ _ _ _ => (pe_ix (ix_K (K := K) rfl) (pv 0) pe_int (fun _ _ => rfl))))) (pe_comp ["_law_lane"] [none] rfl (cs_mk (N₀ := ["_law_board", "_law_count", "_law_lanes", "_law_coops", "_law_ends", "_law_row", "_law_k"]) (sc := defScope sRefusal) (by decide +kernel)) (pi_K (K := K) rfl (pv 2)) (fun _ _ _ _ _ => (pg_name (i := 0) (show (["_law_lane"] : List Str).Nodup from by decide +kernel) rfl (Or.inl rfl))) (fun _ _ _ _ _ => pts_nil) (fun _ _ _ _ _ => (pe_ix (ix_K (K := K) rfl) (pv 0) pe_int (fun _ _ => rfl))))))
      (pss_cons (ps_if (pt_cmpR op_gt (pe_callB (len_K (K := K) rfl) rfl T.n_len b_len (pa_cons (pe_comp ["_law_one", "_law_count"] [none, some 1] rfl (cs_mk (N₀ := ["_law_board", "_law_count", "_law_lanes", "_law_coops", "_law_ends", "_law_row", "_law_k"]) (sc := defScope sRefusal) (by decide +kernel)) (pi_K (K := K) rfl (pv 4)) (fun _ _ _ _ _ => (pg_name (i := 0) (show (["_law_one", "_law_count"] : List Str).Nodup from by decide +kernel) rfl (Or.inl rfl))) (fun _ _ _ _ _ => (pts_one (PW.pt (pw_or (pt_cmpR op_lt (pv 0) pe_int (nomark _)) (pw_or1 (pt_cmpR op_ge (pv 0) (pv 1) (nomark _))))))) (fun _ _ _ _ _ => (pv 0))) pa_nil)) pe_int (nomark _))
       (pss_one (ps_ret pe_str))
       pss_nil)
      (pss_cons (ps_for PassesOwn.never rfl (pi_K (K := K) rfl (pe_lst (pa_cons (pv 2) (pa_cons (pv 3) pa_nil)))) (pg_name (i := 5) scRefusal.nd rfl (Or.inl rfl))
       (pss_one (ps_for PassesOwn.never rfl (pi_range1 rfl T.n_range (pa_cons (pe_callB (len_K (K := K) rfl) rfl T.n_len b_len (pa_cons (pv 5) pa_nil)) pa_nil)) (pg_name (i := 6) scRefusal.nd rfl (Or.inl rfl))
         (pss_one (ps_if (pt_cmpR (op_inD hr) (pe_ix (ix_K (K := K) rfl) (pv 5) (pv 6) (fun _ _ => rfl)) (pe_slice (sl_K (K := K) rfl) (pv 5) (po_some (pe_op op_add (pv 6) pe_int)) po_none) (by with_unfolding_all rfl))
           (pss_one (ps_ret pe_str))
           pss_nil)))))
      (pss_one (ps_ret pe_str))))))), ?_⟩
    obtain ⟨p, la, ca, ls, rfl, hp, hla, als, hca⟩ := hb.raw
    have hl63 := sm.l
    have hk20 := sm.k
    refine ⟨_, rfl, p, _, rfl, SqT.of (hG _ _ hp), rfl, ?_⟩
    refine ⟨_, _, rfl, _, _, rfl, _, _, rfl, rfl, ?_⟩
    -- the count
    refine ⟨_, rfl, _, _, rfl, rfl, _, rfl, ?_⟩
    by_cases c1 : R.c < 1
    · rw [decide_eq_true c1]
      rw [flt_yards c1] at q
      exact iteT (q _ (Same.refl _))
    rw [decide_eq_false c1]
    refine iteF ?_
    -- firsts
    refine ⟨_, rfl, _, rfl, la, rfl, ⟨ls, SqL.of (hG _ _ hla)⟩, fun D hD => ?_⟩
    refine comp_lane (j := 0) (pr := (·.1)) hla als hl63 (fun l => atI_nat (j := 0) rfl) (Ext.refl hG) hD fun H1 x1 w1 _ => ?_
    refine ⟨ca, D, _, _, rfl, rfl, x1.gh _ _ hca, w1.is, few (by simp only [List.length_map]; (first | lia | omega)), fun l1 hl1 => ?_⟩
    have x2 := x1.lay (o := .lst (R.coops.map V.int ++ (R.lanes.map (·.1)).map V.int)) hl1
    have m2 : upd H1 l1 (.lst (R.coops.map V.int ++ (R.lanes.map (·.1)).map V.int)) l1 = some (.lst (R.coops.map V.int ++ (R.lanes.map (·.1)).map V.int)) := upd_same
    have w2 := Own.fresh (o := .lst (R.coops.map V.int ++ (R.lanes.map (·.1)).map V.int)) x1 hl1
    generalize upd H1 l1 (.lst (R.coops.map V.int ++ (R.lanes.map (·.1)).map V.int)) = H2 at x2 m2 w2
    -- seconds
    refine ⟨_, rfl, la, rfl, ⟨ls, SqL.of (x2.gh _ _ hla)⟩, fun D2 hD2 => ?_⟩
    refine comp_lane (j := 1) (pr := (·.2)) hla als hl63 (fun l => atI_nat (j := 1) rfl) x2 hD2 fun H3 x3 z3 s3 => ?_
    have w3 : Own H G H3 l1 (.lst (R.coops.map V.int ++ (R.lanes.map (·.1)).map V.int)) := ⟨w2.new, w2.apart, s3 _ _ w2.is⟩
    clear x1 w1 x2 m2 w2 s3
    have e : ∀ zs : List V, zs = R.coops.map V.int ++ (R.lanes.map (·.1)).map V.int ++ (R.lanes.map (·.2)).map V.int → zs = (R.coops ++ R.lanes.map (·.1) ++ R.lanes.map (·.2)).map V.int := fun zs e => by rw [e, List.map_append, List.map_append]
    refine ⟨l1, D2, _, _, rfl, rfl, w3.is, z3.is, few (by simp only [List.length_append, List.length_map]; (first | lia | omega)), fun l2 hl2 => ?_⟩
    rw [e _ rfl]
    clear e
    have mem : ∀ z, z ∈ R.coops ++ R.lanes.map (·.1) ++ R.lanes.map (·.2) ↔ z ∈ numsR R := fun z => by
      unfold numsR
      simp only [List.mem_append]
      constructor
      · rintro ((h | h) | h)
        · exact .inr h
        · exact .inl (.inl h)
        · exact .inl (.inr h)
      · rintro ((h | h) | h)
        · exact .inl (.inr h)
        · exact .inr h
        · exact .inl (.inl h)
    have hle : (R.coops ++ R.lanes.map (·.1) ++ R.lanes.map (·.2)).length ≤ 200 := by
      simp only [List.length_append, List.length_map]
      (first | lia | omega)
    generalize R.coops ++ R.lanes.map (·.1) ++ R.lanes.map (·.2) = es at mem hle
    have x4 := x3.put (o := .lst (es.map V.int)) hl2
    have s4 : Same G (upd G l2 (.lst (es.map V.int))) := same_upd (x3.gh.free hl2)
    have m4 : upd G l2 (.lst (es.map V.int)) l2 = some (.lst (es.map V.int)) := upd_same
    generalize upd H3 l2 (.lst (es.map V.int)) = H4 at x4
    generalize upd G l2 (.lst (es.map V.int)) = G4 at x4 s4 m4
    clear x3 w3 z3
    -- strangers
    refine ⟨_, rfl, l2, rfl, ⟨_, SqL.of (x4.gh _ _ m4)⟩, fun D3 hD3 => ?_⟩
    have y0 := x4.lay (o := .lst []) hD3
    have v0 := Own.fresh (o := .lst []) x4 hD3
    refine comp_list (xs := es.map V.int) (fun i τ H' => ∃ v, τ = [v, some (.int R.c)] ∧ Ext G H G4 H' ∧ Own H G4 H' D3 (.lst (((es.take i).filter (outR R.c)).map V.int))) ⟨none, rfl, y0, v0⟩ ?_ ?_ ?_
    · rintro i τ H' hi ⟨v, rfl, x, _⟩
      exact SqL.of (x.gh _ _ m4)
    · rintro i x τ H' hx ⟨v, rfl, x5, w5⟩
      rw [List.getElem?_map] at hx
      cases hz : es[i]? with
      | none => rw [hz] at hx; cases hx
      | some z =>
        rw [hz] at hx
        have hx : V.int z = x := Option.some.inj hx
        subst hx
        have ft := filter_take (f := outR R.c) hz
        have out : outR R.c z = true → _ := fun ev => by
          rw [ev, if_pos rfl] at ft
          exact ft
        have put : outR R.c z = true → ∃ v, [some (V.int z), some (V.int R.c)] = [v, some (V.int R.c)] ∧ Ext G H G4 (upd H' D3 (.lst (((es.take i).filter (outR R.c)).map V.int ++ [.int z]))) ∧ Own H G4 (upd H' D3 (.lst (((es.take i).filter (outR R.c)).map V.int ++ [.int z]))) D3 (.lst (((es.take (i + 1)).filter (outR R.c)).map V.int)) := fun ev => by
          rw [ev, if_pos rfl] at ft
          refine ⟨_, rfl, w5.write x5, ?_⟩
          rw [ft, List.map_append]
          exact w5.set
        have hsm : (((es.take i).filter (outR R.c)).map V.int).length < sizeLine := by
          rw [List.length_map]
          have := List.length_filter_le (outR R.c) (es.take i)
          rw [List.length_take] at this
          exact small1000 (by (first | lia | omega))
        refine ⟨_, rfl, _, _, rfl, rfl, _, rfl, ?_⟩
        refine ite2 (fun h1 => ?_) (fun h1 => ?_)
        · refine iteT ⟨_, rfl, _, w5.is, hsm, put ?_⟩
          unfold outR
          rw [h1]
          rfl
        refine ⟨_, rfl, _, rfl, _, _, rfl, rfl, _, rfl, ?_⟩
        refine ite2 (fun h2 => ?_) (fun h2 => ?_)
        · refine ⟨_, rfl, _, w5.is, hsm, put ?_⟩
          unfold outR
          rw [h2]
          exact Bool.or_true _
        · have ev : outR R.c z = false := by
            unfold outR
            rw [Bool.eq_false_iff.mpr h1, Bool.eq_false_iff.mpr h2]
            rfl
          rw [ev, if_neg Bool.false_ne_true, List.append_nil] at ft
          refine ⟨_, rfl, x5, ?_⟩
          rw [ft]
          exact w5
    rintro τ H5 ⟨v, rfl, x5, w5⟩
    rw [List.length_map, List.take_length] at w5
    refine ⟨D3, _, rfl, .inl (SqL.of w5.is), _, _, rfl, rfl, _, rfl, ?_⟩
    refine ite2 (fun h1 => ?_) (fun h1 => ?_)
    · have h1 := of_decide_eq_true h1
      rw [List.length_map] at h1
      obtain ⟨z, hz⟩ := List.exists_mem_of_length_pos (l := es.filter (outR R.c)) (by (first | lia | omega))
      obtain ⟨hz1, hz2⟩ := List.mem_filter.mp hz
      rw [flt_bad c1 ((mem z).mp hz1) hz2] at q
      exact q _ x5.hh
    have er : fltR R = if R.lanes.Nodup ∧ R.coops.Nodup then none else some .twice := by
      refine flt_rest c1 fun z hz ho => h1 (decide_eq_true ?_)
      have := List.length_pos_of_mem (List.mem_filter.mpr ⟨(mem z).mpr hz, ho⟩)
      rw [List.length_map]
      (first | lia | omega)
    clear h1 w5 m4
    -- the rows
    refine ⟨_, rfl, _, rfl, few (by show 2 ≤ 1000; decide), fun l hl => ⟨l, rfl, ⟨_, SqL.of upd_same⟩, ?_⟩⟩
    have s6 : Same H5 (upd H5 l (.lst [.ref la, .ref ca])) := same_upd hl
    have m6 : upd H5 l (.lst [.ref la, .ref ca]) l = some (.lst [.ref la, .ref ca]) := upd_same
    generalize upd H5 l (.lst [.ref la, .ref ca]) = H6 at s6 m6
    have g6 : Same G H6 := (s4.trans x5.gh).trans s6
    have h6 : Same H H6 := x5.hh.trans s6
    refine for_list (xs := [.ref la, .ref ca]) (fun i σ H' => ∃ (v5 v6 : Option V), σ = [some (.ref p), some (.int R.c), some (.ref la), some (.ref ca), some (.ref l2), v5, v6] ∧ Same H6 H' ∧ (1 ≤ i → R.lanes.Nodup) ∧ (2 ≤ i → R.coops.Nodup)) ⟨none, none, rfl, Same.refl _, fun z => by (first | lia | omega), fun z => by (first | lia | omega)⟩ ?_ ?_ ?_
    · rintro i σ H' hi ⟨_, _, rfl, s', _⟩
      exact SqL.of (s' _ _ m6)
    · rintro i x σ H' hx ⟨_, _, rfl, s', n1, n2⟩
      obtain ⟨α, dec, row, d, a, rs, rfl, hrs, ars, hany, hdep, hlen, hnext, htw⟩ : ∃ (α : Type) (_ : DecidableEq α) (row : List α) (d : α → PyData) (a : Addr) (rs : List V), x = .ref a ∧ G a = some (.lst rs) ∧ AtAll G rs (row.map d) ∧ (∀ (l : List α) (x : α), ((l.map d).any fun e => PyData.eqv e (d x)) = decide (x ∈ l)) ∧ (∀ x : α, (d x).depth ≤ 60) ∧ row.length ≤ 63 ∧ (row.Nodup → (1 ≤ i + 1 → R.lanes.Nodup) ∧ (2 ≤ i + 1 → R.coops.Nodup)) ∧ (¬ row.Nodup → ¬ (R.lanes.Nodup ∧ R.coops.Nodup)) := by
        match i, hx with
        | 0, hx =>
          cases hx
          exact ⟨_, inferInstance, R.lanes, laneD, la, ls, rfl, hla, als, fun l x => (any_lane l x).trans (decide_eq_decide.mpr Iff.rfl), lane_depth, hl63, fun n => ⟨fun _ => n, fun z => by (first | lia | omega)⟩, fun n z => n z.1⟩
        | 1, hx =>
          cases hx
          exact ⟨_, inferInstance, R.coops, .int, ca, _, rfl, hca, AtAll.ints _, fun l x => (any_int l x).trans (decide_eq_decide.mpr Iff.rfl), fun _ => by show 0 ≤ 60; decide, by (first | lia | omega), fun n => ⟨fun _ => n1 (Nat.le_refl _), fun _ => n⟩, fun n z => n z.2⟩
      have rl : rs.length = row.length := by rw [ars.length, List.length_map]
      refine ⟨_, rfl, a, _, rfl, .inl (SqL.of (s' _ _ (g6 _ _ hrs))), (rs.length : Int), rfl, by (first | lia | omega), by (first | lia | omega), ?_⟩
      rw [show ((rs.length : Nat) : Int).toNat = row.length by (first | lia | omega)]
      refine for_range (lo := 0) (n := row.length) (fun j σ H' => ∃ (v6 : Option V), σ = [some (.ref p), some (.int R.c), some (.ref la), some (.ref ca), some (.ref l2), some (.ref a), v6] ∧ Same H6 H' ∧ ∀ k x, k < j → row[k]? = some x → x ∉ row.drop (k + 1)) ⟨_, rfl, s', fun k x z => by (first | lia | omega)⟩ ?_ ?_
      · rintro j σ H' hj ⟨_, rfl, s', hn⟩
        rw [show ((0 : Int) + (j : Int)) = (j : Int) by (first | lia | omega)]
        obtain ⟨y, o, hy, ho, ay⟩ := pick_at ars (k := j) hj
        have gH' := g6.trans s'
        refine ⟨_, rfl, _, rfl, .inl ⟨a, _, (j : Int), y, rfl, rfl, SqL.of (gH' _ _ hrs), atI_nat hy, _, rfl, _, rfl, _, _, rfl, rfl, _, rfl, a, _, rfl, SqL.of (gH' _ _ hrs), fun l3 hl3 => ?_⟩⟩
        have s7 : Same H' (upd H' l3 (.lst (rs.drop (j + 1)))) := same_upd hl3
        have hcut : cutV rs (some ((j : Int) + 1)) none = rs.drop (j + 1) := cut_drop (k := j + 1) (by (first | lia | omega))
        rw [hcut]
        have m7 : upd H' l3 (.lst (rs.drop (j + 1))) l3 = some (.lst (rs.drop (j + 1))) := upd_same
        generalize upd H' l3 (.lst (rs.drop (j + 1))) = H7 at s7 m7
        have g7 := gH'.trans s7
        have ad := at_drop (j + 1) ars
        rw [← List.map_drop] at ad
        refine ⟨d o, (row.drop (j + 1)).map d, ay.mono g7, .inl (.lst m7 (ad.mono g7)), hdep _, _, rfl, ?_⟩
        rw [if_neg Bool.false_ne_true, hany]
        by_cases hin : o ∈ row.drop (j + 1)
        · rw [decide_eq_true hin]
          refine iteT ?_
          rw [er, if_neg (htw (not_nodup ho hin))] at q
          exact q _ (h6.trans (s'.trans s7))
        · rw [decide_eq_false hin]
          refine iteF ⟨_, rfl, s'.trans s7, fun k x hk hx => ?_⟩
          by_cases ek : k = j
          · subst ek
            rw [ho] at hx
            cases hx
            exact hin
          · exact hn k x (by (first | lia | omega)) hx
      · rintro σ H' ⟨_, rfl, s', hn⟩
        have nd : row.Nodup := nodup_of_dbl fun k x e => hn k x (List.getElem?_eq_some_iff.mp e).1 e
        exact ⟨_, _, rfl, s', hnext nd⟩
    · rintro σ H' ⟨_, _, rfl, s', n1, n2⟩
      rw [er, if_pos ⟨n1 (by show 1 ≤ 2; decide), n2 (by show 2 ≤ 2; decide)⟩] at q
      exact q _ (h6.trans s')

end
end K02

set_option Elab.async false
set_option linter.all false
set_option maxRecDepth 100000
set_option maxHeartbeats 4000000
namespace K02
open PySem L2 Fx
section
variable {P : Program} {w : World} {K : PySem.W.Frag} {mg : Str → Option Value} {base : Heap}
/-! ### _law_said -/
def saidW (R : Raw) (k : Nat) : Str := match fltR R with
  | none => if k = 3 then "end" else "sound"
  | some f => wordF (some f)
def spSaid : Sp := fun vs H Q _ => ∃ (G : Hp) (b : V) (R : Raw) (k : Nat), vs = [.int (k : Int), b] ∧ Same G H ∧ At G b (rawD R) ∧ SmallR R ∧ k < 7 ∧ (fltR R = none → k = 0 ∨ k = 3) ∧ ∀ H', Same H H' → Q (.str (saidW R k)) H'
def pl00 (t : Bool) : Plc := ⟨0, 0, t⟩
theorem pl00_in {B : Brd} (g : Good B) (t : Bool) : pl00 t ∈ allPos B.n := by
  have := g.pos
  exact mem_allPos.mpr ⟨by show (0 : Int) ≤ 0; decide, by show (0 : Int) < _; (first | lia | omega), by show (0 : Int) ≤ 0; decide, by show (0 : Int) < _; (first | lia | omega)⟩
theorem pl00_end (B : Brd) (t : Bool) : moveB B (pl00 t) = none := move_none (s := true) (if_pos rfl)
theorem scSaid : FnScope ["_law_which", "_law_board", "_law_word"] ["_law_which", "_law_board"] (defScope sSaid) := ⟨rfl, rfl, rfl, by decide +kernel, rfl, by decide +kernel, by decide +kernel⟩
theorem ok_said {f : Addr} {fd : FuncData} (F : Fun K "_law_said" "_law_said" sSaid f fd) (T : Txt mg) (L_NoYards : Kls K mg "NoYards") (L_BadYard : Kls K mg "BadYard") (L_TwiceTold : Kls K mg "TwiceTold") (L_AtAnEnd : Kls K mg "AtAnEnd")
    (M_AtAnEnd_AtAnEnd : PySem.W.exmOne K (.ref L_AtAnEnd.C) (.ref L_AtAnEnd.C) = some true)
    (M_NoYards_AtAnEnd : PySem.W.exmOne K (.ref L_NoYards.C) (.ref L_AtAnEnd.C) = some false) (M_NoYards_NoYards : PySem.W.exmOne K (.ref L_NoYards.C) (.ref L_NoYards.C) = some true)
    (M_BadYard_AtAnEnd : PySem.W.exmOne K (.ref L_BadYard.C) (.ref L_AtAnEnd.C) = some false) (M_BadYard_NoYards : PySem.W.exmOne K (.ref L_BadYard.C) (.ref L_NoYards.C) = some false) (M_BadYard_BadYard : PySem.W.exmOne K (.ref L_BadYard.C) (.ref L_BadYard.C) = some true)
    (M_TwiceTold_AtAnEnd : PySem.W.exmOne K (.ref L_TwiceTold.C) (.ref L_AtAnEnd.C) = some false) (M_TwiceTold_NoYards : PySem.W.exmOne K (.ref L_TwiceTold.C) (.ref L_NoYards.C) = some false) (M_TwiceTold_BadYard : PySem.W.exmOne K (.ref L_TwiceTold.C) (.ref L_BadYard.C) = some false) (M_TwiceTold_TwiceTold : PySem.W.exmOne K (.ref L_TwiceTold.C) (.ref L_TwiceTold.C) = some true)
    (C_check_board : CalX P w K mg base 2 "check_board" ["board"] (spCheck L_NoYards.C L_BadYard.C L_TwiceTold.C))
    (C_solved : CalX P w K mg base 7 "solved" ["board"] (spBad1 L_NoYards.C L_BadYard.C L_TwiceTold.C))
    (C_tally : CalX P w K mg base 7 "tally" ["board"] (spBad1 L_NoYards.C L_BadYard.C L_TwiceTold.C))
    (C_best_move : CalX P w K mg base 7 "best_move" ["board", "position"] (spBest L_NoYards.C L_BadYard.C L_TwiceTold.C L_AtAnEnd.C))
    (C_line_from : CalX P w K mg base 7 "line_from" ["board", "position"] (spBad2 L_NoYards.C L_BadYard.C L_TwiceTold.C))
    (C_played : CalX P w K mg base 7 "played" ["board", "position", "side", "replies"] (spBad4 L_NoYards.C L_BadYard.C L_TwiceTold.C))
    (C_judged : CalX P w K mg base 7 "judged" ["board", "position", "moves"] (spBad3 L_NoYards.C L_BadYard.C L_TwiceTold.C)) :
    FnOk P w K mg base CX0 8 f fd ["_law_which", "_law_board"] spSaid := by
  refine F.ok scSaid (fun vs H Q E h => ?_) (fun cdv A outer s H vs Q E hr h => ?_)
  · obtain ⟨G, b, R, k, rfl, _⟩ := h
    rfl
  · obtain ⟨G, b, R, k, rfl, hG, hb, sm, hk, hn, q⟩ := h
    have hr_ : ∀ {j : Nat}, j ≤ 7 → Room j _ := fun h => hr.mono h
    refine ⟨_, (pss_cons (ps_set (i := 2) scSaid.nd rfl (Or.inl rfl) pe_str)
      (pss_cons (ps_try ⟨_, rfl, rfl⟩ (fun EX pn xe hx => (pss_one (ps_if (pt_cmpR op_eq (pv 0) pe_int (nomark _))
         (pss_one (ps_if (pt_cmp (pc_notN (pe_callS C_check_board.ok (hr_ (by decide)) rfl C_check_board.mg C_check_board.kp C_check_board.b hx (pa_cons (pv 1) pa_nil))))
           (pss_one (ps_set (i := 2) scSaid.nd rfl (Or.inl rfl) pe_str))
           pss_nil))
         (pss_one (ps_if (pt_cmpR op_eq (pv 0) pe_int (nomark _))
           (pss_one (ps_expr (pe_callS C_solved.ok (hr_ (by decide)) rfl C_solved.mg C_solved.kp C_solved.b hx (pa_cons (pv 1) pa_nil))))
           (pss_one (ps_if (pt_cmpR op_eq (pv 0) pe_int (nomark _))
             (pss_one (ps_expr (pe_callS C_tally.ok (hr_ (by decide)) rfl C_tally.mg C_tally.kp C_tally.b hx (pa_cons (pv 1) pa_nil))))
             (pss_one (ps_if (pt_cmpR op_eq (pv 0) pe_int (nomark _))
               (pss_one (ps_expr (pe_callS C_best_move.ok (hr_ (by decide)) rfl C_best_move.mg C_best_move.kp C_best_move.b hx (pa_cons (pv 1) (pa_cons (pe_tup (pa_cons pe_int (pa_cons pe_int (pa_cons pe_str pa_nil)))) pa_nil)))))
               (pss_one (ps_if (pt_cmpR op_eq (pv 0) pe_int (nomark _))
                 (pss_one (ps_expr (pe_callS C_line_from.ok (hr_ (by decide)) rfl C_line_from.mg C_line_from.kp C_line_from.b hx (pa_cons (pv 1) (pa_cons (pe_tup (pa_cons pe_int (pa_cons pe_int (pa_cons pe_str pa_nil)))) pa_nil)))))
                 (pss_one (ps_if (pt_cmpR op_eq (pv 0) pe_int (nomark _))
                   (pss_one (ps_expr (pe_callS C_played.ok (hr_ (by decide)) rfl C_played.mg C_played.kp C_played.b hx (pa_cons (pv 1) (pa_cons (pe_tup (pa_cons pe_int (pa_cons pe_int (pa_cons pe_str pa_nil)))) (pa_cons pe_str (pa_cons (pe_lst pa_nil) pa_nil)))))))
                   (pss_one (ps_expr (pe_callS C_judged.ok (hr_ (by decide)) rfl C_judged.mg C_judged.kp C_judged.b hx (pa_cons (pv 1) (pa_cons (pe_tup (pa_cons pe_int (pa_cons pe_int (pa_cons pe_str pa_nil)))) (pa_cons (pe_lst pa_nil) pa_nil)))))))))))))))))))
       (hands_cons rfl rfl L_AtAnEnd.mg (fun _ => (pss_one (ps_set (i := 2) scSaid.nd rfl (Or.inl rfl) pe_str))) (hands_cons rfl rfl L_NoYards.mg (fun _ => (pss_one (ps_set (i := 2) scSaid.nd rfl (Or.inl rfl) pe_str))) (hands_cons rfl rfl L_BadYard.mg (fun _ => (pss_one (ps_set (i := 2) scSaid.nd rfl (Or.inl rfl) pe_str))) (hands_cons rfl rfl L_TwiceTold.mg (fun _ => (pss_one (ps_set (i := 2) scSaid.nd rfl (Or.inl rfl) pe_str))) hands_nil)))))
      (pss_one (ps_ret (pv 2))))), ?_⟩
    refine ⟨fun σ cls H' => σ = [some (.int (k : Int)), some b, some (.str "sound")] ∧ Same H H' ∧ ((fltR R = none ∧ k = 3 ∧ cls = .ref L_AtAnEnd.C) ∨ ∃ f, fltR R = some f ∧ cls = .ref (clsF L_NoYards.C L_BadYard.C L_TwiceTold.C f)), ?_, ?_⟩
    rotate_left
    · rintro σ cls H' ⟨rfl, s', ⟨e1, e2, rfl⟩ | ⟨f, e1, rfl⟩⟩
      · refine ⟨true, M_AtAnEnd_AtAnEnd, iteT ⟨_, rfl, ?_⟩⟩
        have := q _ s'
        unfold saidW at this
        rw [e1, e2] at this
        exact this
      · have := q _ s'
        unfold saidW at this
        rw [e1] at this
        cases f with
        | yards => exact ⟨false, M_NoYards_AtAnEnd, iteF ⟨true, M_NoYards_NoYards, iteT ⟨_, rfl, this⟩⟩⟩
        | bad => exact ⟨false, M_BadYard_AtAnEnd, iteF ⟨false, M_BadYard_NoYards, iteF ⟨true, M_BadYard_BadYard, iteT ⟨_, rfl, this⟩⟩⟩⟩
        | twice => exact ⟨false, M_TwiceTold_AtAnEnd, iteF ⟨false, M_TwiceTold_NoYards, iteF ⟨false, M_TwiceTold_BadYard, iteF ⟨true, M_TwiceTold_TwiceTold, iteT ⟨_, rfl, this⟩⟩⟩⟩⟩
    by_cases k0 : k = 0
    · refine ifk_t rfl (by (first | lia | omega)) ?_
      refine ⟨_, rfl, G, b, R, rfl, hG, hb, sm, fun H' s' e => ?_, fun H' f s' e => ⟨rfl, s', .inr ⟨f, e, rfl⟩⟩⟩
      refine ⟨_, rfl, ?_⟩
      refine iteF ⟨_, rfl, ?_⟩
      have := q _ s'
      unfold saidW at this
      rw [e, k0] at this
      exact this
    refine ifk_f rfl (by (first | lia | omega)) ?_
    by_cases k3 : k = 3
    · subst k3
      refine ifk_f (k := 3) rfl (by decide) (ifk_f (k := 3) rfl (by decide) (ifk_t (k := 3) rfl rfl ?_))
      refine ⟨_, rfl, few (by show 3 ≤ 1000; decide), fun c hc => ?_⟩
      have s1 : Same H (upd H c (.tup (posV (pl00 true)))) := same_upd hc
      have g1 : Same (upd G c (.tup (posV (pl00 true)))) (upd H c (.tup (posV (pl00 true)))) := hG.upd2
      have gg : Same G (upd G c (.tup (posV (pl00 true)))) := same_upd (hG.free hc)
      refine ⟨_, b, R, .ref c, pl00 true, rfl, g1, hb.mono gg, sm, pos_at upd_same, fun e => ?_, fun H' s' e => ⟨rfl, s1.trans s', .inl ⟨e, rfl, rfl⟩⟩, fun H' f s' e => ⟨rfl, s1.trans s', .inr ⟨f, e, rfl⟩⟩⟩
      exact ⟨pl00_in (raw_good e sm).1 true, pl00_end _ _⟩
    obtain ⟨f, hf⟩ : ∃ f, fltR R = some f := by
      cases e : fltR R with
      | none => rcases hn e with z | z <;> (first | lia | omega)
      | some f => exact ⟨f, rfl⟩
    have out : ∀ H', Same H H' → (fun (σ : L2.St) (cls : Value) (H' : Hp) => σ = [some (.int (k : Int)), some b, some (.str "sound")] ∧ Same H H' ∧ ((fltR R = none ∧ k = 3 ∧ cls = .ref L_AtAnEnd.C) ∨ ∃ f, fltR R = some f ∧ cls = .ref (clsF L_NoYards.C L_BadYard.C L_TwiceTold.C f))) [some (.int (k : Int)), some b, some (.str "sound")] (.ref (clsF L_NoYards.C L_BadYard.C L_TwiceTold.C f)) H' := fun H' s' => ⟨rfl, s', .inr ⟨f, hf, rfl⟩⟩
    clear q hn
    by_cases k1 : k = 1
    · exact ifk_t rfl (by (first | lia | omega)) ⟨_, rfl, G, b, R, f, rfl, hG, hb, sm, hf, out⟩
    refine ifk_f rfl (by (first | lia | omega)) ?_
    by_cases k2 : k = 2
    · exact ifk_t rfl (by (first | lia | omega)) ⟨_, rfl, G, b, R, f, rfl, hG, hb, sm, hf, out⟩
    refine ifk_f rfl (by (first | lia | omega)) ?_
    refine ifk_f rfl (by (first | lia | omega)) ?_
    have mk : ∀ {c : Addr} {o : HO} {H1 : Hp}, Same H H1 → H1 c = none → Same H (upd H1 c o) := fun s h => s.trans (same_upd h)
    by_cases k4 : k = 4
    · refine ifk_t rfl (by (first | lia | omega)) ⟨_, rfl, few (by show 3 ≤ 1000; decide), fun c hc => ?_⟩
      have s1 := mk (o := .tup (posV (pl00 true))) (Same.refl H) hc
      exact ⟨G, b, _, R, f, rfl, hG.trans s1, hb, sm, hf, fun H' s' => out _ (s1.trans s')⟩
    refine ifk_f rfl (by (first | lia | omega)) ?_
    by_cases k5 : k = 5
    · refine ifk_t rfl (by (first | lia | omega)) ⟨_, rfl, few (by show 3 ≤ 1000; decide), fun c hc => ⟨by decide, fun c2 hc2 => ?_⟩⟩
      have s1 := mk (o := .tup (posV (pl00 false))) (Same.refl H) hc
      have s2 := mk (o := .lst []) s1 hc2
      exact ⟨G, b, _, _, _, R, f, rfl, hG.trans s2, hb, sm, hf, fun H' s' => out _ (s2.trans s')⟩
    refine ifk_f rfl (by (first | lia | omega)) ⟨_, rfl, few (by show 3 ≤ 1000; decide), fun c hc => ⟨by decide, fun c2 hc2 => ?_⟩⟩
    have s1 := mk (o := .tup (posV (pl00 false))) (Same.refl H) hc
    have s2 := mk (o := .lst []) s1 hc2
    exact ⟨G, b, _, _, R, f, rfl, hG.trans s2, hb, sm, hf, fun H' s' => out _ (s2.trans s')⟩

end
end K02

set_option Elab.async false
set_option linter.all false
set_option maxRecDepth 100000
set_option maxHeartbeats 4000000
namespace K02
open PySem L2 Fx
section
variable {P : Program} {w : World} {K : PySem.W.Frag} {mg : Str → Option Value} {base : Heap}
/-! ### _law_refuses -/
def spRefuses : Sp := fun vs H Q _ => ∃ (G : Hp) (b : V) (R : Raw) (k : Nat) (f : Flt), vs = [.int (k : Int), b] ∧ Same G H ∧ At G b (rawD R) ∧ SmallR R ∧ k < 7 ∧ fltR R = some f ∧ ∀ H', Same H H' → Q (.bl true) H'
theorem scRefuses : FnScope ["_law_which", "_law_board", "e", "_law_under"] ["_law_which", "_law_board"] (defScope sRefuses) := ⟨rfl, rfl, rfl, by decide +kernel, rfl, by decide +kernel, by decide +kernel⟩
theorem ok_refuses {f : Addr} {fd : FuncData} (F : Fun K "_law_refuses" "_law_refuses" sRefuses f fd) (T : Txt mg) (L_NoYards : Kls K mg "NoYards") (L_BadYard : Kls K mg "BadYard") (L_TwiceTold : Kls K mg "TwiceTold") (L_AtAnEnd : Kls K mg "AtAnEnd") (L_NoLane : Kls K mg "NoLane") (L_YardError : Kls K mg "YardError")
    (M_NoYards_YardError : PySem.W.exmOne K (.ref L_NoYards.C) (.ref L_YardError.C) = some true) (M_BadYard_YardError : PySem.W.exmOne K (.ref L_BadYard.C) (.ref L_YardError.C) = some true) (M_TwiceTold_YardError : PySem.W.exmOne K (.ref L_TwiceTold.C) (.ref L_YardError.C) = some true)
    (M_NoYards_NoYards : PySem.W.exmOne K (.ref L_NoYards.C) (.ref L_NoYards.C) = some true) (M_NoYards_BadYard : PySem.W.exmOne K (.ref L_NoYards.C) (.ref L_BadYard.C) = some false) (M_NoYards_TwiceTold : PySem.W.exmOne K (.ref L_NoYards.C) (.ref L_TwiceTold.C) = some false) (M_NoYards_AtAnEnd : PySem.W.exmOne K (.ref L_NoYards.C) (.ref L_AtAnEnd.C) = some false) (M_NoYards_NoLane : PySem.W.exmOne K (.ref L_NoYards.C) (.ref L_NoLane.C) = some false)
    (M_BadYard_NoYards : PySem.W.exmOne K (.ref L_BadYard.C) (.ref L_NoYards.C) = some false) (M_BadYard_BadYard : PySem.W.exmOne K (.ref L_BadYard.C) (.ref L_BadYard.C) = some true) (M_BadYard_TwiceTold : PySem.W.exmOne K (.ref L_BadYard.C) (.ref L_TwiceTold.C) = some false) (M_BadYard_AtAnEnd : PySem.W.exmOne K (.ref L_BadYard.C) (.ref L_AtAnEnd.C) = some false) (M_BadYard_NoLane : PySem.W.exmOne K (.ref L_BadYard.C) (.ref L_NoLane.C) = some false)
    (M_TwiceTold_NoYards : PySem.W.exmOne K (.ref L_TwiceTold.C) (.ref L_NoYards.C) = some false) (M_TwiceTold_BadYard : PySem.W.exmOne K (.ref L_TwiceTold.C) (.ref L_BadYard.C) = some false) (M_TwiceTold_TwiceTold : PySem.W.exmOne K (.ref L_TwiceTold.C) (.ref L_TwiceTold.C) = some true) (M_TwiceTold_AtAnEnd : PySem.W.exmOne K (.ref L_TwiceTold.C) (.ref L_AtAnEnd.C) = some false) (M_TwiceTold_NoLane : PySem.W.exmOne K (.ref L_TwiceTold.C) (.ref L_NoLane.C) = some false)
    (N_NoYards : ClsAt K L_NoYards.C) (N_BadYard : ClsAt K L_BadYard.C) (N_TwiceTold : ClsAt K L_TwiceTold.C)
    (V_NoYards : PySem.W.exmOne K (.ref L_NoYards.C) (.type "ValueError") = some true) (V_BadYard : PySem.W.exmOne K (.ref L_BadYard.C) (.type "ValueError") = some true) (V_TwiceTold : PySem.W.exmOne K (.ref L_TwiceTold.C) (.type "ValueError") = some true)
    (C_check_board : CalX P w K mg base 2 "check_board" ["board"] (spCheck L_NoYards.C L_BadYard.C L_TwiceTold.C))
    (C_solved : CalX P w K mg base 7 "solved" ["board"] (spBad1 L_NoYards.C L_BadYard.C L_TwiceTold.C))
    (C_tally : CalX P w K mg base 7 "tally" ["board"] (spBad1 L_NoYards.C L_BadYard.C L_TwiceTold.C))
    (C_best_move : CalX P w K mg base 7 "best_move" ["board", "position"] (spBest L_NoYards.C L_BadYard.C L_TwiceTold.C L_AtAnEnd.C))
    (C_line_from : CalX P w K mg base 7 "line_from" ["board", "position"] (spBad2 L_NoYards.C L_BadYard.C L_TwiceTold.C))
    (C_played : CalX P w K mg base 7 "played" ["board", "position", "side", "replies"] (spBad4 L_NoYards.C L_BadYard.C L_TwiceTold.C))
    (C_judged : CalX P w K mg base 7 "judged" ["board", "position", "moves"] (spBad3 L_NoYards.C L_BadYard.C L_TwiceTold.C)) :
    FnOk P w K mg base CX0 8 f fd ["_law_which", "_law_board"] spRefuses := by
  refine F.ok scRefuses (fun vs H Q E h => ?_) (fun cdv A outer s H vs Q E hr h => ?_)
  · obtain ⟨G, b, R, k, f, rfl, _⟩ := h
    rfl
  · obtain ⟨G, b, R, k, f, rfl, hG, hb, sm, hk, hf, q⟩ := h
    have hr_ : ∀ {j : Nat}, j ≤ 7 → Room j _ := fun h => hr.mono h
    refine ⟨_, (pss_cons (ps_try ⟨_, rfl, rfl⟩ (fun EX pn xe hx => (pss_one (ps_if (pt_cmpR op_eq (pv 0) pe_int (nomark _))
         (pss_one (ps_expr (pe_callS C_check_board.ok (hr_ (by decide)) rfl C_check_board.mg C_check_board.kp C_check_board.b hx (pa_cons (pv 1) pa_nil))))
         (pss_one (ps_if (pt_cmpR op_eq (pv 0) pe_int (nomark _))
           (pss_one (ps_expr (pe_callS C_solved.ok (hr_ (by decide)) rfl C_solved.mg C_solved.kp C_solved.b hx (pa_cons (pv 1) pa_nil))))
           (pss_one (ps_if (pt_cmpR op_eq (pv 0) pe_int (nomark _))
             (pss_one (ps_expr (pe_callS C_tally.ok (hr_ (by decide)) rfl C_tally.mg C_tally.kp C_tally.b hx (pa_cons (pv 1) pa_nil))))
             (pss_one (ps_if (pt_cmpR op_eq (pv 0) pe_int (nomark _))
               (pss_one (ps_expr (pe_callS C_best_move.ok (hr_ (by decide)) rfl C_best_move.mg C_best_move.kp C_best_move.b hx (pa_cons (pv 1) (pa_cons (pe_tup (pa_cons pe_int (pa_cons pe_int (pa_cons pe_str pa_nil)))) pa_nil)))))
               (pss_one (ps_if (pt_cmpR op_eq (pv 0) pe_int (nomark _))
                 (pss_one (ps_expr (pe_callS C_line_from.ok (hr_ (by decide)) rfl C_line_from.mg C_line_from.kp C_line_from.b hx (pa_cons (pv 1) (pa_cons (pe_tup (pa_cons pe_int (pa_cons pe_int (pa_cons pe_str pa_nil)))) pa_nil)))))
                 (pss_one (ps_if (pt_cmpR op_eq (pv 0) pe_int (nomark _))
                   (pss_one (ps_expr (pe_callS C_played.ok (hr_ (by decide)) rfl C_played.mg C_played.kp C_played.b hx (pa_cons (pv 1) (pa_cons (pe_tup (pa_cons pe_int (pa_cons pe_int (pa_cons pe_str pa_nil)))) (pa_cons pe_str (pa_cons (pe_lst pa_nil) pa_nil)))))))
                   (pss_one (ps_expr (pe_callS C_judged.ok (hr_ (by decide)) rfl C_judged.mg C_judged.kp C_judged.b hx (pa_cons (pv 1) (pa_cons (pe_tup (pa_cons pe_int (pa_cons pe_int (pa_cons pe_str pa_nil)))) (pa_cons (pe_lst pa_nil) pa_nil)))))))))))))))))))
       (hands_as (i := 2) scRefuses.nd rfl rfl rfl rfl L_YardError.mg (fun _ => (pss_cons (ps_set (i := 3) scRefuses.nd rfl (Or.inl rfl) (pe_lst (pa_cons (pe_callB (isi_own (K := K) rfl) rfl T.n_isinstance b_isinstance (pa_cons (pv 2) (pa_cons (pe_cls rfl L_NoYards.mg) pa_nil))) (pa_cons (pe_callB (isi_own (K := K) rfl) rfl T.n_isinstance b_isinstance (pa_cons (pv 2) (pa_cons (pe_cls rfl L_BadYard.mg) pa_nil))) (pa_cons (pe_callB (isi_own (K := K) rfl) rfl T.n_isinstance b_isinstance (pa_cons (pv 2) (pa_cons (pe_cls rfl L_TwiceTold.mg) pa_nil))) pa_nil)))))
        (pss_cons (ps_set (i := 3) scRefuses.nd rfl (Or.inl rfl) (pe_op op_cat (pv 3) (pe_lst (pa_cons (pe_callB (isi_own (K := K) rfl) rfl T.n_isinstance b_isinstance (pa_cons (pv 2) (pa_cons (pe_cls rfl L_AtAnEnd.mg) pa_nil))) (pa_cons (pe_callB (isi_own (K := K) rfl) rfl T.n_isinstance b_isinstance (pa_cons (pv 2) (pa_cons (pe_cls rfl L_NoLane.mg) pa_nil))) pa_nil)))))
        (pss_one (ps_ret (pe_and (pe_callB (isi_blt (K := K) rfl) rfl T.n_isinstance b_isinstance (pa_cons (pv 2) (pa_cons (pe_ty "ValueError" rfl T.n_ValueError b_ValueError) pa_nil))) (pe_one (pe_cmpR op_eq (m_countB (K := K) rfl (pv 3) (pa_cons pe_bl pa_nil)) pe_int (nomark _))))))))) hands_nil))
      (pss_one (ps_ret pe_bl))), ?_⟩
    refine ⟨fun σ cls H' => σ = [some (.int (k : Int)), some b, none, none] ∧ Same H H' ∧ cls = .ref (clsF L_NoYards.C L_BadYard.C L_TwiceTold.C f), ?_, ?_⟩
    rotate_left
    · rintro σ cls H' ⟨rfl, s', rfl⟩
      have q := fun H2 (s2 : Same H' H2) => q H2 (s'.trans s2)
      obtain ⟨D, b1, b2, b3, b4, b5, eD, nD, vD, mD, mY, m1, m2, m3, m4, m5, hc⟩ : ∃ (D : Addr) (b1 b2 b3 b4 b5 : Bool), clsF L_NoYards.C L_BadYard.C L_TwiceTold.C f = D ∧ ClsAt K D ∧ PySem.W.exmOne K (.ref D) (.type "ValueError") = some true ∧ PySem.W.exmOne K (.ref D) (.ref D) = some true ∧ PySem.W.exmOne K (.ref D) (.ref L_YardError.C) = some true ∧
          PySem.W.exmOne K (.ref D) (.ref L_NoYards.C) = some b1 ∧ PySem.W.exmOne K (.ref D) (.ref L_BadYard.C) = some b2 ∧ PySem.W.exmOne K (.ref D) (.ref L_TwiceTold.C) = some b3 ∧ PySem.W.exmOne K (.ref D) (.ref L_AtAnEnd.C) = some b4 ∧ PySem.W.exmOne K (.ref D) (.ref L_NoLane.C) = some b5 ∧ cntB [b1, b2, b3, b4, b5] true = 1 := by
        cases f with
        | yards => exact ⟨_, true, false, false, false, false, rfl, N_NoYards, V_NoYards, M_NoYards_NoYards, M_NoYards_YardError, M_NoYards_NoYards, M_NoYards_BadYard, M_NoYards_TwiceTold, M_NoYards_AtAnEnd, M_NoYards_NoLane, by decide⟩
        | bad => exact ⟨_, false, true, false, false, false, rfl, N_BadYard, V_BadYard, M_BadYard_BadYard, M_BadYard_YardError, M_BadYard_NoYards, M_BadYard_BadYard, M_BadYard_TwiceTold, M_BadYard_AtAnEnd, M_BadYard_NoLane, by decide⟩
        | twice => exact ⟨_, false, false, true, false, false, rfl, N_TwiceTold, V_TwiceTold, M_TwiceTold_TwiceTold, M_TwiceTold_YardError, M_TwiceTold_NoYards, M_TwiceTold_BadYard, M_TwiceTold_TwiceTold, M_TwiceTold_AtAnEnd, M_TwiceTold_NoLane, by decide⟩
      rw [eD]
      refine ⟨true, mY, iteT ⟨D, rfl, fun ea hea => ?_⟩⟩
      have s1 : Same H' (upd H' ea (.ext (ExcN ea D))) := same_upd hea
      have e1 : upd H' ea (.ext (ExcN ea D)) ea = some (.ext (ExcN ea D)) := upd_same
      generalize upd H' ea (.ext (ExcN ea D)) = H1 at s1 e1
      refine ⟨_, rfl, ea, D, _, b1, rfl, e1, nD, mD, m1, _, rfl, ea, D, _, b2, rfl, e1, nD, mD, m2, _, rfl, ea, D, _, b3, rfl, e1, nD, mD, m3, few (by show 3 ≤ 1000; decide), fun l1 hl1 => ?_⟩
      have s2 : Same H1 (upd H1 l1 (.lst [.bl b1, .bl b2, .bl b3])) := same_upd hl1
      have i2 : upd H1 l1 (.lst [.bl b1, .bl b2, .bl b3]) l1 = some (.lst [.bl b1, .bl b2, .bl b3]) := upd_same
      generalize upd H1 l1 (.lst [.bl b1, .bl b2, .bl b3]) = H2 at s2 i2
      have e2 := s2 _ _ e1
      refine ⟨_, rfl, _, rfl, ea, D, _, b4, rfl, e2, nD, mD, m4, _, rfl, ea, D, _, b5, rfl, e2, nD, mD, m5, few (by show 2 ≤ 1000; decide), fun l2 hl2 => ?_⟩
      have s3 : Same H2 (upd H2 l2 (.lst [.bl b4, .bl b5])) := same_upd hl2
      have i3 : upd H2 l2 (.lst [.bl b4, .bl b5]) l2 = some (.lst [.bl b4, .bl b5]) := upd_same
      generalize upd H2 l2 (.lst [.bl b4, .bl b5]) = H3 at s3 i3
      refine ⟨l1, l2, _, _, rfl, rfl, s3 _ _ i2, i3, few (by show 5 ≤ 1000; decide), fun l3 hl3 => ?_⟩
      have s4 : Same H3 (upd H3 l3 (.lst ([b1, b2, b3, b4, b5].map V.bl))) := same_upd hl3
      have i4 : upd H3 l3 (.lst ([b1, b2, b3, b4, b5].map V.bl)) l3 = some (.lst ([b1, b2, b3, b4, b5].map V.bl)) := upd_same
      have e4 : upd H3 l3 (.lst ([.bl b1, .bl b2, .bl b3] ++ [.bl b4, .bl b5])) = upd H3 l3 (.lst ([b1, b2, b3, b4, b5].map V.bl)) := rfl
      rw [e4]
      generalize upd H3 l3 (.lst ([b1, b2, b3, b4, b5].map V.bl)) = H4 at s4 i4
      refine ⟨_, rfl, ea, D, "ValueError", true, rfl, s4 _ _ (s3 _ _ e2), nD, mD, vD, _, rfl, ?_⟩
      refine iteT ?_
      refine ⟨_, rfl, tyL i4, l3, _, true, rfl, rfl, i4, rfl, ?_⟩
      rw [hc]
      exact q _ (s1.trans (s2.trans (s3.trans s4)))
    have out : ∀ H', Same H H' → (fun (σ : L2.St) (cls : Value) (H' : Hp) => σ = [some (.int (k : Int)), some b, none, none] ∧ Same H H' ∧ cls = .ref (clsF L_NoYards.C L_BadYard.C L_TwiceTold.C f)) [some (.int (k : Int)), some b, none, none] (.ref (clsF L_NoYards.C L_BadYard.C L_TwiceTold.C f)) H' := fun H' s' => ⟨rfl, s', rfl⟩
    clear q
    by_cases k0 : k = 0
    · refine ifk_t rfl (by (first | lia | omega)) ?_
      exact ⟨_, rfl, G, b, R, rfl, hG, hb, sm, fun H' s' e => (by rw [hf] at e; cases e), fun H' f' s' e => (by rw [hf] at e; cases e; exact out _ s')⟩
    refine ifk_f rfl (by (first | lia | omega)) ?_
    by_cases k1 : k = 1
    · exact ifk_t rfl (by (first | lia | omega)) ⟨_, rfl, G, b, R, f, rfl, hG, hb, sm, hf, out⟩
    refine ifk_f rfl (by (first | lia | omega)) ?_
    by_cases k2 : k = 2
    · exact ifk_t rfl (by (first | lia | omega)) ⟨_, rfl, G, b, R, f, rfl, hG, hb, sm, hf, out⟩
    refine ifk_f rfl (by (first | lia | omega)) ?_
    have mk : ∀ {c : Addr} {o : HO} {H1 : Hp}, Same H H1 → H1 c = none → Same H (upd H1 c o) := fun s h => s.trans (same_upd h)
    by_cases k3 : k = 3
    · refine ifk_t rfl (by (first | lia | omega)) ⟨_, rfl, few (by show 3 ≤ 1000; decide), fun c hc => ?_⟩
      have s1 : Same H (upd H c (.tup (posV (pl00 true)))) := same_upd hc
      have g1 : Same (upd G c (.tup (posV (pl00 true)))) (upd H c (.tup (posV (pl00 true)))) := hG.upd2
      have gg : Same G (upd G c (.tup (posV (pl00 true)))) := same_upd (hG.free hc)
      exact ⟨_, b, R, .ref c, pl00 true, rfl, g1, hb.mono gg, sm, pos_at upd_same, fun e => (by rw [hf] at e; cases e), fun H' s' e => (by rw [hf] at e; cases e), fun H' f' s' e => (by rw [hf] at e; cases e; exact out _ (s1.trans s'))⟩
    refine ifk_f rfl (by (first | lia | omega)) ?_
    by_cases k4 : k = 4
    · refine ifk_t rfl (by (first | lia | omega)) ⟨_, rfl, few (by show 3 ≤ 1000; decide), fun c hc => ?_⟩
      have s1 := mk (o := .tup (posV (pl00 true))) (Same.refl H) hc
      exact ⟨G, b, _, R, f, rfl, hG.trans s1, hb, sm, hf, fun H' s' => out _ (s1.trans s')⟩
    refine ifk_f rfl (by (first | lia | omega)) ?_
    by_cases k5 : k = 5
    · refine ifk_t rfl (by (first | lia | omega)) ⟨_, rfl, few (by show 3 ≤ 1000; decide), fun c hc => ⟨by decide, fun c2 hc2 => ?_⟩⟩
      have s1 := mk (o := .tup (posV (pl00 false))) (Same.refl H) hc
      have s2 := mk (o := .lst []) s1 hc2
      exact ⟨G, b, _, _, _, R, f, rfl, hG.trans s2, hb, sm, hf, fun H' s' => out _ (s2.trans s')⟩
    refine ifk_f rfl (by (first | lia | omega)) ⟨_, rfl, few (by show 3 ≤ 1000; decide), fun c hc => ⟨by decide, fun c2 hc2 => ?_⟩⟩
    have s1 := mk (o := .tup (posV (pl00 false))) (Same.refl H) hc
    have s2 := mk (o := .lst []) s1 hc2
    exact ⟨G, b, _, _, R, f, rfl, hG.trans s2, hb, sm, hf, fun H' s' => out _ (s2.trans s')⟩

end
end K02

set_option Elab.async false
set_option linter.all false
set_option maxRecDepth 100000
set_option maxHeartbeats 4000000
namespace K02
open PySem L2 Fx
section
variable {P : Program} {w : World} {K : PySem.W.Frag} {mg : Str → Option Value} {base : Heap}
def spBoard (menu : List Int) : Sp := fun vs H Q _ => ∃ (G : Hp) (a : Addr) (ns : List Int), vs = [.ref a] ∧ Same G H ∧ G a = some (.lst (ns.map V.int)) ∧ ns.length ≤ 63 ∧
  ∀ (G' H' : Hp) (r : V), Ext G H G' H' → At G' r (boardD (boardOf menu ns)) → Q r H'
/-! ### _law_board_by -/
theorem scBoard : FnScope ["_law_script", "_law_count", "_law_seed", "_law_lanes", "_law_outs", "_law_k", "_law_one", "_law_lane", "_law_coops", "_law_yard", "_law_coop"] ["_law_script"] (defScope sBoard) := ⟨rfl, rfl, rfl, by decide +kernel, rfl, by decide +kernel, by decide +kernel⟩
/-- between two turns of the lanes' loop -/
structure LanesAt (G H G1 H1 : Hp) (la oa : Addr) (lanes : List (Int × Int)) (outs : List Int) : Prop where
  x : Ext G H G1 H1
  ne : la ≠ oa
  l : ∃ xs, Own H G1 H1 la (.lst xs) ∧ AtAll G1 xs (lanes.map laneD)
  o : Own H G1 H1 oa (.lst (outs.map V.int))
/-- between two turns of the coops' loop -/
structure CoopsAt (G H G1 H1 : Hp) (la ca : Addr) (lanes : List (Int × Int)) (coops : List Int) : Prop where
  x : Ext G H G1 H1
  ne : la ≠ ca
  l : ∃ xs, Own H G1 H1 la (.lst xs) ∧ AtAll G1 xs (lanes.map laneD)
  c : Own H G1 H1 ca (.lst (coops.map V.int))
theorem ok_board {f : Addr} {fd : FuncData} (F : Fun K "_law_board_by" "_law_board_by" sBoard f fd) (T : Txt mg) (C__law_at : Cal P w K mg base 1 "_law_at" ["_law_script", "_law_k"] spAt) : FnOk P w K mg base CX0 2 f fd ["_law_script"] (spBoard menuA) := by
  refine F.ok scBoard (fun vs H Q E h => ?_) (fun cdv A outer s H vs Q E hr h => ?_)
  · obtain ⟨G, a, ns, rfl, _⟩ := h
    rfl
  · obtain ⟨G, a, ns, rfl, hG, ha, hlen, q⟩ := h
    have hr_ : ∀ {j : Nat}, j ≤ 1 → Room j _ := fun h => hr.mono h
    have ha0 := hG _ _ ha
    refine ⟨_, (pss_cons (ps_set (i := 1) scBoard.nd rfl (Or.inl rfl) (pe_ix (ix_K (K := K) rfl) (pe_lst (pa_cons pe_int (pa_cons pe_int (pa_cons pe_int (pa_cons pe_int (pa_cons pe_int (pa_cons pe_int (pa_cons pe_int (pa_cons pe_int pa_nil))))))))) (pe_op op_mod (pe_call C__law_at.ok (hr_ (by decide)) rfl C__law_at.mg C__law_at.kp C__law_at.b .nil pass0 (pa_cons (pv 0) (pa_cons pe_int pa_nil))) pe_int) (fun _ _ => rfl)))
      (pss_cons (ps_set (i := 2) scBoard.nd rfl (Or.inl rfl) (pe_call C__law_at.ok (hr_ (by decide)) rfl C__law_at.mg C__law_at.kp C__law_at.b .nil pass0 (pa_cons (pv 0) (pa_cons pe_int pa_nil))))
      (pss_cons (ps_set (i := 3) scBoard.nd rfl (Or.inl rfl) (pe_lst pa_nil))
      (pss_cons (ps_set (i := 4) scBoard.nd rfl (Or.inl rfl) (pe_op op_rep (pe_lst (pa_cons pe_int pa_nil)) (pv 1)))
      (pss_cons (ps_for PassesOwn.never rfl (pi_range2 rfl T.n_range (pa_cons pe_int (pa_cons (pe_callB (len_K (K := K) rfl) rfl T.n_len b_len (pa_cons (pv 0) pa_nil)) pa_nil))) (pg_name (i := 5) scBoard.nd rfl (Or.inl rfl))
       (pss_cons (ps_set (i := 6) scBoard.nd rfl (Or.inl rfl) (pe_op op_mod (pe_op op_add (pe_op op_fdiv (pe_ix (ix_K (K := K) rfl) (pv 0) (pv 5) (fun _ _ => rfl)) pe_int) (pv 5)) (pv 1)))
        (pss_cons (ps_set (i := 7) scBoard.nd rfl (Or.inl rfl) (pe_tup (pa_cons (pv 6) (pa_cons (pe_op op_mod (pe_op op_add (pe_ix (ix_K (K := K) rfl) (pv 0) (pv 5) (fun _ _ => rfl)) (pe_op op_fdiv (pv 5) (pv 1))) (pv 1)) pa_nil))))
        (pss_one (ps_if (PW.pt (pw_and (pt_cmpR (op_notInD hr) (pv 7) (pv 3) (by with_unfolding_all rfl)) (pw_and1 (pt_cmpR op_lt (pe_ix (ix_K (K := K) rfl) (pv 4) (pv 6) (fun _ _ => rfl)) (pe_ix (ix_K (K := K) rfl) (pe_lst (pa_cons pe_int (pa_cons pe_int (pa_cons pe_int (pa_cons pe_int pa_nil))))) (pe_op op_mod (pv 2) pe_int) (fun _ _ => rfl)) (nomark _)))))
         (pss_cons (ps_expr (append_K (K := K) rfl (pv 3) (pa_cons (pv 7) pa_nil)))
          (pss_one (ps_asg (pe_op op_add (pe_ix (ix_K (K := K) rfl) (pv 4) (pv 6) (fun _ _ => rfl)) pe_int) (pg_sub (pv 4) (pv 6) set_list))))
         pss_nil)))))
      (pss_cons (ps_set (i := 8) scBoard.nd rfl (Or.inl rfl) (pe_lst pa_nil))
      (pss_cons (ps_for PassesOwn.never rfl (pi_range1 rfl T.n_range (pa_cons (pv 1) pa_nil)) (pg_name (i := 9) scBoard.nd rfl (Or.inl rfl))
       (pss_cons (ps_set (i := 10) scBoard.nd rfl (Or.inl rfl) (pe_and (pe_cmpR op_ne (pe_op op_mod (pe_op op_fdiv (pv 2) pe_int) pe_int) pe_int (nomark _)) (pe_one (pe_cmpR op_eq (pe_op op_mod (pe_op op_add (pe_op op_fdiv (pv 2) pe_int) (pv 9)) pe_int) pe_int (nomark _)))))
        (pss_cons (ps_if (pt_cmpR op_eq (pe_op op_mod (pe_op op_fdiv (pv 2) pe_int) pe_int) pe_int (nomark _))
         (pss_one (ps_set (i := 10) scBoard.nd rfl (Or.inl rfl) (pe_cmpR op_eq (pe_op op_mod (pe_op op_fdiv (pv 2) (pe_ix (ix_K (K := K) rfl) (pe_lst (pa_cons pe_int (pa_cons pe_int (pa_cons pe_int (pa_cons pe_int (pa_cons pe_int (pa_cons pe_int (pa_cons pe_int pa_nil)))))))) (pv 9) (fun _ _ => rfl))) pe_int) pe_int (nomark _))))
         pss_nil)
        (pss_one (ps_if (pt_val (pv 10))
         (pss_one (ps_expr (append_K (K := K) rfl (pv 8) (pa_cons (pv 9) pa_nil))))
         pss_nil)))))
      (pss_one (ps_ret (pe_tup (pa_cons (pv 1) (pa_cons (pv 3) (pa_cons (pv 8) pa_nil))))))))))))), ?_⟩
    -- _law_count = [..][_law_at(_law_script, 0) % 8]
    have hn := cnt_pos (menu := menuA) (ns := ns) (.inl rfl)
    refine ⟨by decide, fun p1 h1 => ?_⟩
    have x1 : Ext G H G (upd H p1 (.lst [.int 2, .int 3, .int 4, .int 5, .int 1, .int 3, .int 7, .int 5])) := (Ext.refl hG).lay h1
    generalize eH1 : upd H p1 (.lst [.int 2, .int 3, .int 4, .int 5, .int 1, .int 3, .int 7, .int 5]) = H1 at x1
    have l1 : H1 p1 = some (.lst (menuA.map V.int)) := by rw [← eH1]; exact upd_same
    refine ⟨_, rfl, a, ns, 0, rfl, x1.hh _ _ ha0, _, _, rfl, rfl, (by show (0 : Int) < 8; decide), .inl ⟨p1, _, _, .int (cntOf menuA ns), rfl, rfl, SqL.of l1, atI_toNat (Int.emod_nonneg _ (by decide)) (mod_lt8 _), ?_⟩⟩
    -- _law_seed = _law_at(_law_script, 1)
    refine ⟨_, rfl, a, ns, 1, rfl, x1.hh _ _ ha0, ?_⟩
    -- _law_lanes = []
    refine ⟨by decide, fun la hla => ?_⟩
    have wl := Own.fresh (o := .lst []) x1 hla
    have x2 := x1.lay (o := .lst []) hla
    generalize upd H1 la (.lst []) = H2 at wl x2
    -- _law_outs = [0] * _law_count
    refine ⟨by decide, fun p2 h2 => ?_⟩
    have wl3 := wl.lay (u := .lst [.int 0]) h2
    have x3 := x2.lay (o := .lst [.int 0]) h2
    have l3 : upd H2 p2 (.lst [.int 0]) p2 = some (.lst [.int 0]) := upd_same
    generalize upd H2 p2 (.lst [.int 0]) = H3 at wl3 x3 l3
    refine ⟨_, rfl, p2, cntOf menuA ns, [.int 0], rfl, rfl, l3, by (first | lia | omega), by (first | lia | omega), ?_, fun oa hoa => ?_⟩
    · have := hn.2
      have e : ([V.int 0].length * (cntOf menuA ns).toNat) ≤ 7 := by
        show 1 * _ ≤ 7
        (first | lia | omega)
      exact Nat.le_trans e (by decide)
    have er : (List.replicate (cntOf menuA ns).toNat [V.int 0]).flatten = (List.replicate (cntOf menuA ns).toNat (0 : Int)).map V.int := by
      generalize (cntOf menuA ns).toNat = m
      induction m with
      | zero => rfl
      | succ m ih => rw [List.replicate_succ, List.flatten_cons, ih, List.replicate_succ, List.map_cons]; rfl
    rw [er]
    have wo := Own.fresh (o := .lst ((List.replicate (cntOf menuA ns).toNat (0 : Int)).map V.int)) x3 hoa
    have wl4 := wl3.lay (u := .lst ((List.replicate (cntOf menuA ns).toNat (0 : Int)).map V.int)) hoa
    have x4 := x3.lay (o := .lst ((List.replicate (cntOf menuA ns).toNat (0 : Int)).map V.int)) hoa
    have neo : la ≠ oa := ne_of_none wl3.is hoa
    generalize upd H3 oa (.lst ((List.replicate (cntOf menuA ns).toNat (0 : Int)).map V.int)) = H4 at wo wl4 x4
    generalize hn0 : cntOf menuA ns = n at *
    -- for _law_k in range(2, len(_law_script))
    refine ⟨_, rfl, a, _, rfl, .inl (SqL.of (x4.hh _ _ ha0)), 2, _, rfl, ⟨by (first | lia | omega), by (first | lia | omega), by (first | lia | omega), by rw [List.length_map]; (first | lia | omega)⟩, ?_⟩
    have ez : ((((ns.map V.int).length : Nat) : Int) - 2).toNat = ns.length - 2 := by rw [List.length_map]; (first | lia | omega)
    rw [ez]
    refine for_range (lo := 2) (n := ns.length - 2) (fun i σ H' => ∃ (v5 v6 v7 : Option V) (G1 : Hp), σ = [some (.ref a), some (.int n), some (.int (atD ns 1)), some (.ref la), some (.ref oa), v5, v6, v7, none, none, none] ∧
      LanesAt G H G1 H' la oa (runL n (limOf (atD ns 1)) ns i).1 (runL n (limOf (atD ns 1)) ns i).2) ⟨none, none, none, G, rfl, x4, neo, ⟨[], wl4, .nil⟩, wo⟩ ?_ ?_
    · rintro i σ H5 hi ⟨v5, v6, v7, G1, rfl, L⟩
      obtain ⟨x5, _, ⟨xs, wl5, ax⟩, wo5⟩ := L
      have hk : i + 2 < ns.length := by (first | lia | omega)
      have ek : ((2 : Int) + (i : Int)) = ((i + 2 : Nat) : Int) := by (first | lia | omega)
      have gl := runL_good (lim := limOf (atD ns 1)) (ns := ns) hn.1 i
      have lin := laneOf_in hn.1 (atD ns (i + 2)) (i + 2)
      have ha5 := x5.hh _ _ ha0
      show _
      rw [ek]
      -- _law_one
      refine ⟨_, rfl, _, rfl, .inl ⟨a, _, ((i + 2 : Nat) : Int), _, rfl, rfl, SqL.of ha5, atI_int hk, _, _, rfl, rfl, ⟨by decide, by decide⟩, _, rfl, _, _, rfl, rfl, _, rfl, _, _, rfl, rfl, (by (first | lia | omega)), ?_⟩⟩
      -- _law_lane
      refine ⟨_, rfl, _, rfl, _, rfl, .inl ⟨a, _, ((i + 2 : Nat) : Int), _, rfl, rfl, SqL.of ha5, atI_int hk, _, rfl, _, rfl, _, _, rfl, rfl, ⟨by (first | lia | omega), by (first | lia | omega)⟩, _, _, rfl, rfl, _, rfl, _, _, rfl, rfl, (by (first | lia | omega)), few (by show 2 ≤ 1000; decide), fun p hp => ?_⟩⟩
      have x6 := x5.put (o := .tup [.int (laneOf n (atD ns (i + 2)) (i + 2)).1, .int (laneOf n (atD ns (i + 2)) (i + 2)).2]) hp
      have wl6 := wl5.put (u := .tup [.int (laneOf n (atD ns (i + 2)) (i + 2)).1, .int (laneOf n (atD ns (i + 2)) (i + 2)).2]) hp
      have wo6 := wo5.put (u := .tup [.int (laneOf n (atD ns (i + 2)) (i + 2)).1, .int (laneOf n (atD ns (i + 2)) (i + 2)).2]) hp
      have ax6 : AtAll (upd G1 p (.tup [.int (laneOf n (atD ns (i + 2)) (i + 2)).1, .int (laneOf n (atD ns (i + 2)) (i + 2)).2])) xs ((runL n (limOf (atD ns 1)) ns i).1.map laneD) := ax.mono (same_upd (x5.gh.free hp))
      have al6 : At (upd G1 p (.tup [.int (laneOf n (atD ns (i + 2)) (i + 2)).1, .int (laneOf n (atD ns (i + 2)) (i + 2)).2])) (.ref p) (laneD (laneOf n (atD ns (i + 2)) (i + 2))) := .tup upd_same (.cons (.int _) (.cons (.int _) .nil))
      have e1 : (atD ns (i + 2) / 7 + ((i + 2 : Nat) : Int)) % n = (laneOf n (atD ns (i + 2)) (i + 2)).1 := rfl
      have e2 : (atD ns (i + 2) + ((i + 2 : Nat) : Int) / n) % n = (laneOf n (atD ns (i + 2)) (i + 2)).2 := rfl
      dsimp only [gName]
      rw [e1, e2]
      generalize upd H5 p (.tup [.int (laneOf n (atD ns (i + 2)) (i + 2)).1, .int (laneOf n (atD ns (i + 2)) (i + 2)).2]) = H6 at *
      generalize upd G1 p (.tup [.int (laneOf n (atD ns (i + 2)) (i + 2)).1, .int (laneOf n (atD ns (i + 2)) (i + 2)).2]) = G6 at *
      have rs : runL n (limOf (atD ns 1)) ns (i + 1) = stepL n (limOf (atD ns 1)) ns (runL n (limOf (atD ns 1)) ns i) (i + 2) := rfl
      generalize hst : runL n (limOf (atD ns 1)) ns i = st at *
      generalize hln : laneOf n (atD ns (i + 2)) (i + 2) = ln at *
      -- _law_lane not in _law_lanes
      refine ⟨_, rfl, _, rfl, _, _, al6.mono x6.gh, .inl (.lst wl6.is (ax6.mono x6.gh)), lane_depth _, _, rfl, ?_⟩
      have eany : (if true = true then !((st.1.map laneD).any fun e => PyData.eqv e (laneD ln)) else (st.1.map laneD).any fun e => PyData.eqv e (laneD ln)) = !decide (ln ∈ st.1) := by rw [if_pos rfl, any_lane]
      rw [eany]
      by_cases hin : ln ∈ st.1
      · rw [decide_eq_true hin]
        have es : stepL n (limOf (atD ns 1)) ns st (i + 2) = st := by
          unfold stepL
          rw [hln, if_neg (fun z => z.1 hin)]
        refine iteF (iteF ⟨_, _, _, G6, rfl, ?_⟩)
        rw [rs, es]
        exact ⟨x6, neo, ⟨xs, wl6, ax6⟩, wo6⟩
      · rw [decide_eq_false hin]
        refine iteT ?_
        -- _law_outs[_law_one] < [1, 2, 3, 7][_law_seed % 4]
        have ho : ln.1.toNat < st.2.length := by rw [gl.outs]; (first | lia | omega)
        refine ⟨_, rfl, _, rfl, .inl ⟨oa, _, ln.1, _, rfl, rfl, SqL.of wo6.is, atI_toNat lin.1.1 ho, by decide, fun p3 h3 => ?_⟩⟩
        have x7 := x6.lay (o := .lst [.int 1, .int 2, .int 3, .int 7]) h3
        have wl7 := wl6.lay (u := .lst [.int 1, .int 2, .int 3, .int 7]) h3
        have wo7 := wo6.lay (u := .lst [.int 1, .int 2, .int 3, .int 7]) h3
        have l7 : upd H6 p3 (.lst [.int 1, .int 2, .int 3, .int 7]) p3 = some (.lst (([1, 2, 3, 7] : List Int).map V.int)) := upd_same
        generalize upd H6 p3 (.lst [.int 1, .int 2, .int 3, .int 7]) = H7 at *
        refine ⟨_, rfl, _, _, rfl, rfl, (by show (0 : Int) < 4; decide), .inl ⟨p3, _, _, .int (limOf (atD ns 1)), rfl, rfl, SqL.of l7, atI_toNat (Int.emod_nonneg _ (by decide)) (by show (_ % (4 : Int)).toNat < 4; (first | lia | omega)), _, _, rfl, rfl, _, rfl, ?_⟩⟩
        refine ite2 (fun hc => ?_) (fun hc => ?_)
        · have hc : atD st.2 ln.1.toNat < limOf (atD ns 1) := of_decide_eq_true hc
          have es : stepL n (limOf (atD ns 1)) ns st (i + 2) = (st.1 ++ [ln], st.2.set ln.1.toNat (atD st.2 ln.1.toNat + 1)) := by
            unfold stepL
            rw [hln, if_pos ⟨hin, hc⟩]
            rfl
          -- append
          refine ⟨_, rfl, tyL wl7.is, _, rfl, la, xs, _, rfl, rfl, wl7.is, ?_, ?_⟩
          · have e1 := ax6.length
            rw [List.length_map] at e1
            have := gl.len
            exact small1000 (by (first | lia | omega))
          have x8 := wl7.write (u := .lst (xs ++ [.ref p])) x7
          have wl8 := wl7.set (u := .lst (xs ++ [.ref p]))
          have wo8 := wo7.other (u := .lst (xs ++ [.ref p])) neo.symm
          generalize upd H7 la (.lst (xs ++ [.ref p])) = H8 at *
          -- _law_outs[_law_one] = _law_outs[_law_one] + 1
          refine ⟨_, rfl, _, rfl, .inl ⟨oa, _, ln.1, _, rfl, rfl, SqL.of wo8.is, atI_toNat lin.1.1 ho, _, _, rfl, rfl, _, rfl, _, rfl, oa, _, ln.1, ln.1.toNat, rfl, rfl, wo8.is, ?_, ?_⟩⟩
          · unfold ixN
            rw [if_pos lin.1.1, if_pos (by rw [List.length_map]; (first | lia | omega))]
          refine ⟨_, _, _, G6, rfl, ?_⟩
          rw [rs, es]
          refine ⟨wo8.write x8, neo, ⟨xs ++ [.ref p], wl8.other neo, ?_⟩, ?_⟩
          · show AtAll G6 _ ((st.1 ++ [ln]).map laneD)
            rw [List.map_append]
            exact ax6.append (.one al6)
          · have e : (st.2.map V.int).set ln.1.toNat (.int (atD st.2 ln.1.toNat + 1)) = (st.2.set ln.1.toNat (atD st.2 ln.1.toNat + 1)).map V.int := by rw [List.map_set]
            show Own H G6 (upd H8 oa (.lst ((st.2.map V.int).set ln.1.toNat (.int (atD st.2 ln.1.toNat + 1))))) oa (.lst ((st.2.set ln.1.toNat (atD st.2 ln.1.toNat + 1)).map V.int))
            rw [← e]
            exact wo8.set
        · have hc : ¬ atD st.2 ln.1.toNat < limOf (atD ns 1) := fun z => hc (decide_eq_true z)
          have es : stepL n (limOf (atD ns 1)) ns st (i + 2) = st := by
            unfold stepL
            rw [hln, if_neg (fun z => hc z.2)]
          refine ⟨_, _, _, G6, rfl, ?_⟩
          rw [rs, es]
          exact ⟨x7, neo, ⟨xs, wl7, ax6⟩, wo7⟩
    · rintro σ H5 ⟨v5, v6, v7, G1, rfl, L⟩
      obtain ⟨x5, _, ⟨xs, wl5, ax⟩, wo5⟩ := L
      -- _law_coops = []
      refine ⟨by decide, fun ca hca => ?_⟩
      have wc := Own.fresh (o := .lst []) x5 hca
      have wl6 := wl5.lay (u := .lst []) hca
      have x6 := x5.lay (o := .lst []) hca
      have nec : la ≠ ca := ne_of_none wl5.is hca
      generalize upd H5 ca (.lst []) = H6 at *
      generalize hlanes : (runL n (limOf (atD ns 1)) ns (ns.length - 2)).1 = lanes at *
      -- for _law_yard in range(_law_count)
      refine ⟨_, rfl, n, rfl, by (first | lia | omega), by (first | lia | omega), ?_⟩
      refine for_range (lo := 0) (n := n.toNat) (fun i σ H' => ∃ (v5 v6 v7 v9 v10 : Option V), σ = [some (.ref a), some (.int n), some (.int (atD ns 1)), some (.ref la), some (.ref oa), v5, v6, v7, some (.ref ca), v9, v10] ∧
        CoopsAt G H G1 H' la ca lanes (coopsUp (atD ns 1) i)) ⟨v5, v6, v7, none, none, rfl, x6, nec, ⟨xs, wl6, ax⟩, wc⟩ ?_ ?_
      · rintro i σ H7 hi ⟨v5, v6, v7, v9, v10, rfl, x7, _, ⟨xs7, wl7, ax7⟩, wc7⟩
        have hi7 : i < 7 := by (first | lia | omega)
        have ei : ((0 : Int) + (i : Int)) = ((i : Nat) : Int) := by (first | lia | omega)
        show _
        rw [ei]
        -- _law_coop = .. and ..
        have cup : coopsUp (atD ns 1) (i + 1) = coopsUp (atD ns 1) i ++ (if coopOf (atD ns 1) i = true then [(i : Int)] else []) := by
          unfold coopsUp
          rw [List.range_succ, List.filter_append, List.map_append]
          congr 1
          by_cases h : coopOf (atD ns 1) i = true
          · rw [if_pos h, List.filter_cons, if_pos h]; rfl
          · rw [if_neg h, List.filter_cons, if_neg h]; rfl
        -- what comes of it: the value b of _law_coop
        have fin : ∀ (H8 : Hp) (b : Bool), b = coopOf (atD ns 1) i → Ext G H G1 H8 → Own H G1 H8 la (.lst xs7) → Own H G1 H8 ca (.lst ((coopsUp (atD ns 1) i).map V.int)) →
            ∀ D : Ends, D.nx = (fun σ H' => ∃ (v5 v6 v7 v9 v10 : Option V), σ = [some (.ref a), some (.int n), some (.int (atD ns 1)), some (.ref la), some (.ref oa), v5, v6, v7, some (.ref ca), v9, v10] ∧ CoopsAt G H G1 H' la ca lanes (coopsUp (atD ns 1) (i + 1))) →
            tIfS (tB (tVar 10)) (tDrop (tBM K "list" rAppend (tVar 8) (tCons (tVar 9) tNil))) tNext D [some (.ref a), some (.int n), some (.int (atD ns 1)), some (.ref la), some (.ref oa), v5, v6, v7, some (.ref ca), some (.int (i : Int)), some (.bl b)] H8 := by
          intro H8 b hb x8 wl8 wc8 D hD
          refine ⟨_, rfl, _, rfl, ite2 (fun hc => ?_) (fun hc => ?_)⟩
          · refine ⟨_, rfl, tyL wc8.is, _, rfl, ca, _, _, rfl, rfl, wc8.is, ?_, ?_⟩
            · rw [List.length_map]
              have : (coopsUp (atD ns 1) i).length ≤ i := by
                unfold coopsUp
                rw [List.length_map]
                exact Nat.le_trans (List.length_filter_le _ _) (by rw [List.length_range]; exact Nat.le_refl _)
              exact small1000 (by (first | lia | omega))
            · show D.nx _ _
              rw [hD]
              refine ⟨_, _, _, _, _, rfl, wc8.write x8, nec, ⟨xs7, wl8.other nec, ax7⟩, ?_⟩
              have := wc8.set (u := .lst ((coopsUp (atD ns 1) i).map V.int ++ [.int (i : Int)]))
              rw [cup, if_pos (by rw [← hb]; exact hc), List.map_append]
              exact this
          · show D.nx _ _
            rw [hD]
            refine ⟨_, _, _, _, _, rfl, x8, nec, ⟨xs7, wl8, ax7⟩, ?_⟩
            rw [cup, if_neg (by rw [← hb]; exact hc), List.append_nil]
            exact wc8
        refine ⟨_, rfl, _, _, rfl, rfl, ⟨by decide, by decide⟩, _, _, rfl, rfl, (by show (0 : Int) < 5; decide), rfl, _, rfl, ?_⟩
        refine iteQ (b2 := decide ((atD ns 1 / 3 + (i : Int)) % 4 = 1)) (Q := fun x H1 => gName 10 x _ H1 _) (fun hq => ?_) ?_
        · refine ⟨_, rfl, _, _, rfl, rfl, ⟨by decide, by decide⟩, _, rfl, _, _, rfl, rfl, _, _, rfl, rfl, (by show (0 : Int) < 4; decide), rfl, ?_⟩
          rw [decV]
          exact hq
        have ea : ((!decide (V.int (atD ns 1 / 3 % 5) = V.int 4)) && decide ((atD ns 1 / 3 + (i : Int)) % 4 = 1)) = coopA (atD ns 1) i := by
          rw [decV]
          rfl
        rw [ea]
        -- if _law_seed // 15 % 3 == 1
        refine ⟨_, rfl, _, _, rfl, rfl, ⟨by decide, by decide⟩, _, _, rfl, rfl, (by show (0 : Int) < 3; decide), rfl, _, rfl, ?_⟩
        rw [decV]
        refine ite2 (fun hc => ?_) (fun hc => ?_)
        · have hc : atD ns 1 / 15 % 3 = 1 := of_decide_eq_true hc
          refine ⟨_, rfl, by decide, fun p4 h4 => ?_⟩
          have x8 := x7.lay (o := .lst [.int 45, .int 90, .int 180, .int 360, .int 720, .int 1440, .int 2880]) h4
          have wl8 := wl7.lay (u := .lst [.int 45, .int 90, .int 180, .int 360, .int 720, .int 1440, .int 2880]) h4
          have wc8 := wc7.lay (u := .lst [.int 45, .int 90, .int 180, .int 360, .int 720, .int 1440, .int 2880]) h4
          have l8 : upd H7 p4 (.lst [.int 45, .int 90, .int 180, .int 360, .int 720, .int 1440, .int 2880]) p4 = some (.lst (divs.map V.int)) := upd_same
          generalize upd H7 p4 (.lst [.int 45, .int 90, .int 180, .int 360, .int 720, .int 1440, .int 2880]) = H8 at x8 wl8 wc8 l8
          have dm : atD divs i ∈ divs := Fx.getD_mem hi7
          have dd : 0 < atD divs i ∧ atD divs i < 1073741824 := by
            generalize atD divs i = z at dm
            simp [divs] at dm
            (first | lia | omega)
          refine ⟨_, rfl, .inl ⟨p4, _, _, _, rfl, rfl, SqL.of l8, atI_int hi7, _, _, rfl, rfl, dd, _, _, rfl, rfl, (by show (0 : Int) < 2; decide), rfl, ?_⟩⟩
          refine fin H8 _ ?_ x8 wl8 wc8 _ rfl
          rw [decV]
          unfold coopOf
          rw [if_pos hc]
          rfl
        · have hc : ¬ atD ns 1 / 15 % 3 = 1 := fun z => hc (decide_eq_true z)
          refine fin H7 _ ?_ x7 wl7 wc7 _ rfl
          unfold coopOf
          rw [if_neg hc]
      · rintro σ H7 ⟨v5, v6, v7, v9, v10, rfl, x7, _, ⟨xs7, wl7, ax7⟩, wc7⟩
        refine ⟨_, rfl, _, rfl, _, rfl, few (by show 3 ≤ 1000; decide), fun p hp => ?_⟩
        have x8 := Own.join x7 wl7
        have wc8 := Own.joined wl7 wc7 nec.symm
        have x9 := Own.join x8 wc8
        have x10 := x9.put (o := .tup [.int n, .ref la, .ref ca]) hp
        refine q _ _ _ x10 ?_
        have s1 : Same G1 (upd G1 la (.lst xs7)) := same_upd wl7.apart
        have s2 : Same (upd G1 la (.lst xs7)) (upd (upd G1 la (.lst xs7)) ca (.lst ((coopsUp (atD ns 1) n.toNat).map V.int))) := same_upd wc8.apart
        have hpn := x9.gh.free hp
        have s3 := same_upd (o := .tup [.int n, .ref la, .ref ca]) hpn
        have eL : (boardOf menuA ns).lanes = lanes := by
          show (runL (cntOf menuA ns) (limOf (atD ns 1)) ns (ns.length - 2)).1 = lanes
          rw [hn0, hlanes]
        have eC : (boardOf menuA ns).coops = coopsUp (atD ns 1) n.toNat := by
          show coopsUp (atD ns 1) (cntOf menuA ns).toNat = _
          rw [hn0]
        unfold boardD
        rw [eL, eC]
        refine .tup upd_same (.cons ?_ (.cons (.lst (s3 _ _ (s2 _ _ upd_same)) (ax7.mono (s1.trans (s2.trans s3)))) (.cons (.lst (s3 _ _ upd_same) (AtAll.ints _)) .nil)))
        have e : (((boardOf menuA ns).n : Nat) : Int) = n := by
          show (((cntOf menuA ns).toNat : Nat) : Int) = n
          rw [hn0]
          (first | lia | omega)
        rw [e]
        exact .int n

/-! ### the law -/
theorem word_not (f : Flt) : wordF (some f) ≠ "sound" := by
  cases f <;> decide +kernel
theorem scLaw : FnScope ["_law_script", "_law_way", "_law_board", "_law_due", "_law_which"] ["_law_script"] (defScope sLaw) := ⟨rfl, rfl, rfl, by decide +kernel, rfl, by decide +kernel, by decide +kernel⟩
theorem ok_law {f : Addr} {fd : FuncData} (F : Fun K "law" "law" sLaw f fd) (T : Txt mg)
    (C__law_at : Cal P w K mg base 1 "_law_at" ["_law_script", "_law_k"] spAt) (C__law_mixed : Cal P w K mg base 1 "_law_mixed" ["_law_script"] spMixed) (C__law_board_by : Cal P w K mg base 2 "_law_board_by" ["_law_script"] (spBoard menuA))
    (C__law_spoilt : Cal P w K mg base 1 "_law_spoilt" ["_law_board", "_law_way", "_law_seed"] spSpoilt) (C__law_refusal : Cal P w K mg base 1 "_law_refusal" ["_law_board"] spRefusal)
    (C__law_said : Cal P w K mg base 8 "_law_said" ["_law_which", "_law_board"] spSaid) (C__law_refuses : Cal P w K mg base 8 "_law_refuses" ["_law_which", "_law_board"] spRefuses) :
    FnOk P w K mg base CX0 9 f fd ["_law_script"] (spLaw K) := by
  refine F.ok scLaw (fun vs H Q E h => ?_) (fun cdv A outer s H vs Q E hr h => ?_)
  · obtain ⟨a, ns, rfl, _⟩ := h
    rfl
  · obtain ⟨a, ns, rfl, hS, hlen, q⟩ := h
    have hr_ : ∀ {j : Nat}, j ≤ 8 → Room j _ := fun h => hr.mono h
    refine ⟨_, (pss_cons (ps_set (i := 0) scLaw.nd rfl (Or.inl rfl) (pe_slice (sl_K (K := K) rfl) (pv 0) po_none (po_some pe_int)))
      (pss_cons (ps_set (i := 0) scLaw.nd rfl (Or.inl rfl) (pe_call C__law_mixed.ok (hr_ (by decide)) rfl C__law_mixed.mg C__law_mixed.kp C__law_mixed.b .nil pass0 (pa_cons (pv 0) pa_nil)))
      (pss_cons (ps_set (i := 1) scLaw.nd rfl (Or.inl rfl) (pe_op op_fdiv (pe_call C__law_at.ok (hr_ (by decide)) rfl C__law_at.mg C__law_at.kp C__law_at.b .nil pass0 (pa_cons (pv 0) (pa_cons pe_int pa_nil))) pe_int))
      (pss_cons (ps_set (i := 2) scLaw.nd rfl (Or.inl rfl) (pe_call C__law_spoilt.ok (hr_ (by decide)) rfl C__law_spoilt.mg C__law_spoilt.kp C__law_spoilt.b .nil pass0 (pa_cons (pe_call C__law_board_by.ok (hr_ (by decide)) rfl C__law_board_by.mg C__law_board_by.kp C__law_board_by.b .nil pass0 (pa_cons (pv 0) pa_nil)) (pa_cons (pv 1) (pa_cons (pe_op op_fdiv (pe_call C__law_at.ok (hr_ (by decide)) rfl C__law_at.mg C__law_at.kp C__law_at.b .nil pass0 (pa_cons (pv 0) (pa_cons pe_int pa_nil))) pe_int) pa_nil)))))
      (pss_cons (ps_set (i := 3) scLaw.nd rfl (Or.inl rfl) (pe_call C__law_refusal.ok (hr_ (by decide)) rfl C__law_refusal.mg C__law_refusal.kp C__law_refusal.b .nil pass0 (pa_cons (pv 2) pa_nil)))
      (pss_cons (ps_if (pt_cmpR op_eq (pv 3) pe_str (nomark _))
       (pss_one (ps_ret (pe_and (pe_cmpR op_eq (pe_call C__law_said.ok (hr_ (by decide)) rfl C__law_said.mg C__law_said.kp C__law_said.b .nil pass0 (pa_cons pe_int (pa_cons (pv 2) pa_nil))) (pv 3) (nomark _)) (pe_one (pe_cmpR op_eq (pe_call C__law_said.ok (hr_ (by decide)) rfl C__law_said.mg C__law_said.kp C__law_said.b .nil pass0 (pa_cons pe_int (pa_cons (pv 2) pa_nil))) pe_str (nomark _))))))
       pss_nil)
      (pss_cons (ps_for PassesOwn.never rfl (pi_range1 rfl T.n_range (pa_cons pe_int pa_nil)) (pg_name (i := 4) scLaw.nd rfl (Or.inl rfl))
       (pss_cons (ps_if (pt_cmpR op_ne (pe_call C__law_said.ok (hr_ (by decide)) rfl C__law_said.mg C__law_said.kp C__law_said.b .nil pass0 (pa_cons (pv 4) (pa_cons (pv 2) pa_nil))) (pv 3) (nomark _))
         (pss_one (ps_ret pe_bl))
         pss_nil)
        (pss_one (ps_if (pt_cmpR op_ne (pe_call C__law_refuses.ok (hr_ (by decide)) rfl C__law_refuses.mg C__law_refuses.kp C__law_refuses.b .nil pass0 (pa_cons (pv 4) (pa_cons (pv 2) pa_nil))) (pe_cmpR op_ne (pv 3) pe_str (nomark _)) (nomark _))
         (pss_one (ps_ret pe_bl))
         pss_nil))))
      (pss_one (ps_ret pe_bl))))))))), ?_⟩
    -- _law_script[:500]
    refine ⟨_, rfl, _, rfl, a, _, rfl, hS, fun a2 ha2 => ?_⟩
    rw [cut500 hlen]
    have hG0 : Same (upd (fun _ => none) a2 (.lst (ns.map V.int))) (upd H a2 (.lst (ns.map V.int))) := (show Same (fun _ => none) H from fun _ _ z => nomatch z).upd2
    have hGa0 : upd (fun _ => none) a2 (.lst (ns.map V.int)) a2 = some (.lst (ns.map V.int)) := upd_same
    generalize upd (fun _ => none) a2 (.lst (ns.map V.int)) = G0 at hG0 hGa0
    generalize upd H a2 (.lst (ns.map V.int)) = H0 at hG0
    refine ⟨_, rfl, G0, a2, ns, rfl, hG0, hGa0, hlen, fun G H1 a3 xm hGa => ?_⟩
    have hlen : (mixD ns).length ≤ 63 := by unfold mixD; rw [List.length_map, List.length_range]; exact hlen
    generalize mixD ns = ns' at hGa hlen
    have hG := xm.gh
    have gB := boardOf_good (menu := menuA) (.inl rfl) hlen
    -- way, board
    refine ⟨_, rfl, a3, ns', 1, rfl, hG _ _ hGa, _, _, rfl, rfl, ⟨by decide, by decide⟩, ?_⟩
    refine ⟨_, rfl, G, a3, ns', rfl, hG, hGa, hlen, fun G2 H2 r x2 ab => ?_⟩
    generalize hB : boardOf menuA ns' = B at *
    have hn1 := gB.pos
    have hn7 := gB.few
    have ha3 := x2.gh _ _ (x2.gg _ _ hGa)
    refine ⟨_, rfl, _, rfl, a3, ns', 0, rfl, ha3, _, _, rfl, rfl, ⟨by decide, by decide⟩, G2, r, ⟨(B.n : Int), B.lanes, B.coops⟩, _, _, rfl, x2.gh, ab, (by show (1 : Int) ≤ (B.n : Int); (first | lia | omega)), (by show (B.n : Int) ≤ 7; (first | lia | omega)), gB.len, coops7 gB, fun G3 H3 r3 R x3 ar sm => ?_⟩
    clear hB gB hn1 hn7 ab x2 ha3
    -- due
    refine ⟨_, rfl, G3, r3, R, rfl, x3.gh, ar, sm, fun H4 s4 => ?_⟩
    have g4 : Same G3 H4 := x3.gh.trans s4
    refine ⟨_, rfl, rfl, _, rfl, ?_⟩
    cases hf : fltR R with
    | none =>
      rw [show decide (V.str (wordF none) = V.str "sound") = true from decide_eq_true rfl]
      refine iteT ?_
      refine ⟨_, rfl, G3, r3, R, 0, rfl, g4, ar, sm, by decide, fun _ => .inl rfl, fun H5 s5 => ?_⟩
      have e0 : saidW R 0 = "sound" := by unfold saidW; rw [hf]; rfl
      have e3 : saidW R 3 = "end" := by unfold saidW; rw [hf]; rfl
      rw [e0]
      refine ⟨_, rfl, rfl, _, rfl, ?_⟩
      rw [show decide (V.str "sound" = V.str (wordF none)) = true from decide_eq_true rfl]
      refine iteT ?_
      refine ⟨_, rfl, G3, r3, R, 3, rfl, g4.trans s5, ar, sm, by decide, fun _ => .inr rfl, fun H6 s6 => ?_⟩
      rw [e3]
      refine ⟨rfl, ?_⟩
      rw [show decide (V.str "end" = V.str "end") = true from decide_eq_true rfl]
      exact q _
    | some fl =>
      have nw : ¬ V.str (wordF (some fl)) = V.str "sound" := fun z => word_not fl (V.str.inj z)
      rw [decide_eq_false nw]
      refine iteF ?_
      refine ⟨7, rfl, by decide, by decide, ?_⟩
      refine for_range (lo := 0) (n := 7) (fun i σ H' => ∃ v4 : Option V, σ = [some (.ref a3), some (.int (atD ns' 1 / 15)), some r3, some (.str (wordF (some fl))), v4] ∧ Same H4 H') ⟨none, rfl, Same.refl _⟩ ?_ ?_
      · rintro i σ H5 hi ⟨v4, rfl, s5⟩
        rw [show ((0 : Int) + (i : Int)) = (i : Int) by (first | lia | omega)]
        refine ⟨_, rfl, _, rfl, G3, r3, R, i, rfl, g4.trans s5, ar, sm, hi, fun z => (by rw [hf] at z; cases z), fun H6 s6 => ?_⟩
        have ei : saidW R i = wordF (some fl) := by unfold saidW; rw [hf]
        rw [ei]
        refine ⟨_, rfl, rfl, _, rfl, ?_⟩
        rw [decide_eq_true (rfl : V.str (wordF (some fl)) = V.str (wordF (some fl)))]
        refine iteF ?_
        refine ⟨_, rfl, _, rfl, G3, r3, R, i, fl, rfl, (g4.trans s5).trans s6, ar, sm, hi, hf, fun H7 s7 => ?_⟩
        refine ⟨_, rfl, rfl, ?_⟩
        rw [decide_eq_false nw]
        refine ⟨rfl, _, rfl, ?_⟩
        rw [show decide (V.bl true = V.bl (!false)) = true from decide_eq_true rfl]
        exact iteF ⟨_, rfl, s5.trans (s6.trans s7)⟩
      · rintro σ H5 ⟨v4, rfl, s5⟩
        exact q _

end
end K02
end
set_option Elab.async false
set_option linter.all false
set_option maxRecDepth 100000
set_option maxHeartbeats 4000000
namespace K02
open PySem L2 Fx
structure Got (K : PySem.W.Frag) (py : Str) (st : Stmt) : Prop where
  ex : ∃ (f : Addr) (fd : FuncData), PySem.W.nsIn K mainGlobals py = some (some (.ref f)) ∧ Fun K py py st f fd
theorem got_mk {K : PySem.W.Frag} {py : Str} {st : Stmt} {f : Addr} {oc : Value} {od an : Option Addr} {osl : Array (Option Value)} {kV dc pm cd ct : Value} (a : PySem.W.nsIn K mainGlobals py = some (some (.ref f)))
    (l : K.lookup f = some ⟨oc, od, .func (PySem.W.fnOf py py (defArgs st) (defBody st) (defScope st) .none kV dc pm an cd ct), osl⟩) (c : PySem.W.codeIn K cd py = true) (k : PySem.W.keepIn K (.ref f) = true) : Got K py st := ⟨⟨f, _, a, fun_mk l c k⟩⟩
theorem all_mk {l : PySem.W.OpenLaw} {w : World} {K : PySem.W.Frag} {h : Heap} {mg : Str → Option Value} {fa : Addr} (X : K.In h) (G : h.Ns mainGlobals mg) (hfa : mg "law" = some (.ref fa))
    (d0 : Got K "numbers_told" sNums)
    (d1 : Got K "holds_twice" sTwice)
    (d2 : Got K "check_board" sCheck)
    (d3 : Got K "ways_from" sWays)
    (d4 : Got K "positions_of" sPositions)
    (d5 : Got K "other_side" sOther)
    (d6 : Got K "lanes_ahead" sAhead)
    (d7 : Got K "moved" sMoved)
    (d8 : Got K "winner" sWinner)
    (d9 : Got K "ended_positions" sEnded)
    (d10 : Got K "positions_behind" sBehind)
    (d11 : Got K "side_that_wins" sSide)
    (d12 : Got K "newly_won" sNewly)
    (d13 : Got K "won_positions" sWon)
    (d14 : Got K "move_told" sMoveTold)
    (d15 : Got K "verdicts_on" sVerdicts)
    (d16 : Got K "solved" sSolved)
    (d17 : Got K "best_move" sBest)
    (d18 : Got K "line_from" sLine)
    (d19 : Got K "played" sPlayed)
    (d20 : Got K "judged" sJudged)
    (d21 : Got K "tally" sTally)
    (d22 : Got K "_law_at" sAt)
    (d23 : Got K "_law_board_by" sBoard)
    (d24 : Got K "_law_spoilt" sSpoilt)
    (d25 : Got K "_law_refusal" sRefusal)
    (d26 : Got K "_law_said" sSaid)
    (d27 : Got K "_law_mixed" sMixed)
    (d28 : Got K "_law_refuses" sRefuses)
    (d29 : Got K "law" sLaw)
    (z_len : PySem.W.nsIn K mainGlobals "len" = some none)
    (z_set : PySem.W.nsIn K mainGlobals "set" = some none)
    (z_isinstance : PySem.W.nsIn K mainGlobals "isinstance" = some none)
    (z_sorted : PySem.W.nsIn K mainGlobals "sorted" = some none)
    (z_range : PySem.W.nsIn K mainGlobals "range" = some none)
    (z_ValueError : PySem.W.nsIn K mainGlobals "ValueError" = some none)
    (c_NoYards : Fx.GotC K "NoYards")
    (c_BadYard : Fx.GotC K "BadYard")
    (c_TwiceTold : Fx.GotC K "TwiceTold")
    (c_AtAnEnd : Fx.GotC K "AtAnEnd")
    (c_NoLane : Fx.GotC K "NoLane")
    (c_YardError : Fx.GotC K "YardError")
    (M_AtAnEnd_AtAnEnd : Fx.GotM K "AtAnEnd" "AtAnEnd" true)
    (M_NoYards_AtAnEnd : Fx.GotM K "NoYards" "AtAnEnd" false)
    (M_NoYards_NoYards : Fx.GotM K "NoYards" "NoYards" true)
    (M_BadYard_AtAnEnd : Fx.GotM K "BadYard" "AtAnEnd" false)
    (M_BadYard_NoYards : Fx.GotM K "BadYard" "NoYards" false)
    (M_BadYard_BadYard : Fx.GotM K "BadYard" "BadYard" true)
    (M_TwiceTold_AtAnEnd : Fx.GotM K "TwiceTold" "AtAnEnd" false)
    (M_TwiceTold_NoYards : Fx.GotM K "TwiceTold" "NoYards" false)
    (M_TwiceTold_BadYard : Fx.GotM K "TwiceTold" "BadYard" false)
    (M_TwiceTold_TwiceTold : Fx.GotM K "TwiceTold" "TwiceTold" true)
    (M_NoYards_YardError : Fx.GotM K "NoYards" "YardError" true)
    (M_BadYard_YardError : Fx.GotM K "BadYard" "YardError" true)
    (M_TwiceTold_YardError : Fx.GotM K "TwiceTold" "YardError" true)
    (M_NoYards_BadYard : Fx.GotM K "NoYards" "BadYard" false)
    (M_NoYards_TwiceTold : Fx.GotM K "NoYards" "TwiceTold" false)
    (M_NoYards_NoLane : Fx.GotM K "NoYards" "NoLane" false)
    (M_BadYard_TwiceTold : Fx.GotM K "BadYard" "TwiceTold" false)
    (M_BadYard_NoLane : Fx.GotM K "BadYard" "NoLane" false)
    (M_TwiceTold_NoLane : Fx.GotM K "TwiceTold" "NoLane" false)
    (N_NoYards : Fx.GotN K "NoYards")
    (N_BadYard : Fx.GotN K "BadYard")
    (N_TwiceTold : Fx.GotN K "TwiceTold")
    (V_NoYards : Fx.GotV K "NoYards")
    (V_BadYard : Fx.GotV K "BadYard")
    (V_TwiceTold : Fx.GotV K "TwiceTold")
    : ∃ fd : FuncData, (∀ (s : Shared) (v : Value), BindsTo s fd ⟨[v], []⟩ [("_law_script", v)]) ∧ ∀ base : Heap, K.In base → base.Ns mainGlobals mg → FnOk l.prog w K mg base CX0 9 fa fd ["_law_script"] (spLaw K) := by
  have T : Txt mg := ⟨PySem.W.mg_none_of X G z_len, PySem.W.mg_none_of X G z_set, PySem.W.mg_none_of X G z_isinstance, PySem.W.mg_none_of X G z_sorted, PySem.W.mg_none_of X G z_range, PySem.W.mg_none_of X G z_ValueError⟩
  obtain ⟨f0, e0, a0, F0⟩ := d0.ex
  have b0 := F0.binds (ps := ["board"]) fun _ _ _ _ _ _ us hl => match us, hl with | [_], _ => rfl
  obtain ⟨f1, e1, a1, F1⟩ := d1.ex
  have b1 := F1.binds (ps := ["parts"]) fun _ _ _ _ _ _ us hl => match us, hl with | [_], _ => rfl
  obtain ⟨f2, e2, a2, F2⟩ := d2.ex
  have b2 := F2.binds (ps := ["board"]) fun _ _ _ _ _ _ us hl => match us, hl with | [_], _ => rfl
  obtain ⟨f3, e3, a3, F3⟩ := d3.ex
  have b3 := F3.binds (ps := ["board", "yard"]) fun _ _ _ _ _ _ us hl => match us, hl with | [_, _], _ => rfl
  obtain ⟨f4, e4, a4, F4⟩ := d4.ex
  have b4 := F4.binds (ps := ["board"]) fun _ _ _ _ _ _ us hl => match us, hl with | [_], _ => rfl
  obtain ⟨f5, e5, a5, F5⟩ := d5.ex
  have b5 := F5.binds (ps := ["side"]) fun _ _ _ _ _ _ us hl => match us, hl with | [_], _ => rfl
  obtain ⟨f6, e6, a6, F6⟩ := d6.ex
  have b6 := F6.binds (ps := ["board", "position"]) fun _ _ _ _ _ _ us hl => match us, hl with | [_, _], _ => rfl
  obtain ⟨f7, e7, a7, F7⟩ := d7.ex
  have b7 := F7.binds (ps := ["position", "yard"]) fun _ _ _ _ _ _ us hl => match us, hl with | [_, _], _ => rfl
  obtain ⟨f8, e8, a8, F8⟩ := d8.ex
  have b8 := F8.binds (ps := ["board", "position"]) fun _ _ _ _ _ _ us hl => match us, hl with | [_, _], _ => rfl
  obtain ⟨f9, e9, a9, F9⟩ := d9.ex
  have b9 := F9.binds (ps := ["board"]) fun _ _ _ _ _ _ us hl => match us, hl with | [_], _ => rfl
  obtain ⟨f10, e10, a10, F10⟩ := d10.ex
  have b10 := F10.binds (ps := ["board", "ended"]) fun _ _ _ _ _ _ us hl => match us, hl with | [_, _], _ => rfl
  obtain ⟨f11, e11, a11, F11⟩ := d11.ex
  have b11 := F11.binds (ps := ["won", "turn", "behind"]) fun _ _ _ _ _ _ us hl => match us, hl with | [_, _, _], _ => rfl
  obtain ⟨f12, e12, a12, F12⟩ := d12.ex
  have b12 := F12.binds (ps := ["won", "behind"]) fun _ _ _ _ _ _ us hl => match us, hl with | [_, _], _ => rfl
  obtain ⟨f13, e13, a13, F13⟩ := d13.ex
  have b13 := F13.binds (ps := ["board"]) fun _ _ _ _ _ _ us hl => match us, hl with | [_], _ => rfl
  obtain ⟨f14, e14, a14, F14⟩ := d14.ex
  have b14 := F14.binds (ps := ["board", "won", "position"]) fun _ _ _ _ _ _ us hl => match us, hl with | [_, _, _], _ => rfl
  obtain ⟨f15, e15, a15, F15⟩ := d15.ex
  have b15 := F15.binds (ps := ["board"]) fun _ _ _ _ _ _ us hl => match us, hl with | [_], _ => rfl
  obtain ⟨f16, e16, a16, F16⟩ := d16.ex
  have b16 := F16.binds (ps := ["board"]) fun _ _ _ _ _ _ us hl => match us, hl with | [_], _ => rfl
  obtain ⟨f17, e17, a17, F17⟩ := d17.ex
  have b17 := F17.binds (ps := ["board", "position"]) fun _ _ _ _ _ _ us hl => match us, hl with | [_, _], _ => rfl
  obtain ⟨f18, e18, a18, F18⟩ := d18.ex
  have b18 := F18.binds (ps := ["board", "position"]) fun _ _ _ _ _ _ us hl => match us, hl with | [_, _], _ => rfl
  obtain ⟨f19, e19, a19, F19⟩ := d19.ex
  have b19 := F19.binds (ps := ["board", "position", "side", "replies"]) fun _ _ _ _ _ _ us hl => match us, hl with | [_, _, _, _], _ => rfl
  obtain ⟨f20, e20, a20, F20⟩ := d20.ex
  have b20 := F20.binds (ps := ["board", "position", "moves"]) fun _ _ _ _ _ _ us hl => match us, hl with | [_, _, _], _ => rfl
  obtain ⟨f21, e21, a21, F21⟩ := d21.ex
  have b21 := F21.binds (ps := ["board"]) fun _ _ _ _ _ _ us hl => match us, hl with | [_], _ => rfl
  obtain ⟨f22, e22, a22, F22⟩ := d22.ex
  have b22 := F22.binds (ps := ["_law_script", "_law_k"]) fun _ _ _ _ _ _ us hl => match us, hl with | [_, _], _ => rfl
  obtain ⟨f23, e23, a23, F23⟩ := d23.ex
  have b23 := F23.binds (ps := ["_law_script"]) fun _ _ _ _ _ _ us hl => match us, hl with | [_], _ => rfl
  obtain ⟨f24, e24, a24, F24⟩ := d24.ex
  have b24 := F24.binds (ps := ["_law_board", "_law_way", "_law_seed"]) fun _ _ _ _ _ _ us hl => match us, hl with | [_, _, _], _ => rfl
  obtain ⟨f25, e25, a25, F25⟩ := d25.ex
  have b25 := F25.binds (ps := ["_law_board"]) fun _ _ _ _ _ _ us hl => match us, hl with | [_], _ => rfl
  obtain ⟨f26, e26, a26, F26⟩ := d26.ex
  have b26 := F26.binds (ps := ["_law_which", "_law_board"]) fun _ _ _ _ _ _ us hl => match us, hl with | [_, _], _ => rfl
  obtain ⟨f27, e27, a27, F27⟩ := d27.ex
  have b27 := F27.binds (ps := ["_law_script"]) fun _ _ _ _ _ _ us hl => match us, hl with | [_], _ => rfl
  obtain ⟨f28, e28, a28, F28⟩ := d28.ex
  have b28 := F28.binds (ps := ["_law_which", "_law_board"]) fun _ _ _ _ _ _ us hl => match us, hl with | [_, _], _ => rfl
  obtain ⟨f29, e29, a29, F29⟩ := d29.ex
  have e := hfa.symm.trans (PySem.W.mg_of X G a29)
  cases e
  have FL := F29
  obtain ⟨⟨oc, od, kV, dc, pm, an, cd, ct, osl, eL, lk, hcd⟩, kp⟩ := FL
  subst eL
  refine ⟨PySem.W.fnOf "law" "law" (defArgs sLaw) (defBody sLaw) (defScope sLaw) .none kV dc pm an cd ct, fun s v => .of_eq rfl, fun base _ _ => ?_⟩
  obtain ⟨A_NoYards, a_NoYards, x_NoYards⟩ := c_NoYards.ex
  let L_NoYards : Kls K mg "NoYards" := ⟨A_NoYards, PySem.W.mg_of X G a_NoYards, x_NoYards, a_NoYards⟩
  obtain ⟨A_BadYard, a_BadYard, x_BadYard⟩ := c_BadYard.ex
  let L_BadYard : Kls K mg "BadYard" := ⟨A_BadYard, PySem.W.mg_of X G a_BadYard, x_BadYard, a_BadYard⟩
  obtain ⟨A_TwiceTold, a_TwiceTold, x_TwiceTold⟩ := c_TwiceTold.ex
  let L_TwiceTold : Kls K mg "TwiceTold" := ⟨A_TwiceTold, PySem.W.mg_of X G a_TwiceTold, x_TwiceTold, a_TwiceTold⟩
  obtain ⟨A_AtAnEnd, a_AtAnEnd, x_AtAnEnd⟩ := c_AtAnEnd.ex
  let L_AtAnEnd : Kls K mg "AtAnEnd" := ⟨A_AtAnEnd, PySem.W.mg_of X G a_AtAnEnd, x_AtAnEnd, a_AtAnEnd⟩
  obtain ⟨A_NoLane, a_NoLane, x_NoLane⟩ := c_NoLane.ex
  let L_NoLane : Kls K mg "NoLane" := ⟨A_NoLane, PySem.W.mg_of X G a_NoLane, x_NoLane, a_NoLane⟩
  obtain ⟨A_YardError, a_YardError, x_YardError⟩ := c_YardError.ex
  let L_YardError : Kls K mg "YardError" := ⟨A_YardError, PySem.W.mg_of X G a_YardError, x_YardError, a_YardError⟩
  replace M_AtAnEnd_AtAnEnd : PySem.W.exmOne K (.ref L_AtAnEnd.C) (.ref L_AtAnEnd.C) = some true := M_AtAnEnd_AtAnEnd.of a_AtAnEnd a_AtAnEnd
  replace M_NoYards_AtAnEnd : PySem.W.exmOne K (.ref L_NoYards.C) (.ref L_AtAnEnd.C) = some false := M_NoYards_AtAnEnd.of a_NoYards a_AtAnEnd
  replace M_NoYards_NoYards : PySem.W.exmOne K (.ref L_NoYards.C) (.ref L_NoYards.C) = some true := M_NoYards_NoYards.of a_NoYards a_NoYards
  replace M_BadYard_AtAnEnd : PySem.W.exmOne K (.ref L_BadYard.C) (.ref L_AtAnEnd.C) = some false := M_BadYard_AtAnEnd.of a_BadYard a_AtAnEnd
  replace M_BadYard_NoYards : PySem.W.exmOne K (.ref L_BadYard.C) (.ref L_NoYards.C) = some false := M_BadYard_NoYards.of a_BadYard a_NoYards
  replace M_BadYard_BadYard : PySem.W.exmOne K (.ref L_BadYard.C) (.ref L_BadYard.C) = some true := M_BadYard_BadYard.of a_BadYard a_BadYard
  replace M_TwiceTold_AtAnEnd : PySem.W.exmOne K (.ref L_TwiceTold.C) (.ref L_AtAnEnd.C) = some false := M_TwiceTold_AtAnEnd.of a_TwiceTold a_AtAnEnd
  replace M_TwiceTold_NoYards : PySem.W.exmOne K (.ref L_TwiceTold.C) (.ref L_NoYards.C) = some false := M_TwiceTold_NoYards.of a_TwiceTold a_NoYards
  replace M_TwiceTold_BadYard : PySem.W.exmOne K (.ref L_TwiceTold.C) (.ref L_BadYard.C) = some false := M_TwiceTold_BadYard.of a_TwiceTold a_BadYard
  replace M_TwiceTold_TwiceTold : PySem.W.exmOne K (.ref L_TwiceTold.C) (.ref L_TwiceTold.C) = some true := M_TwiceTold_TwiceTold.of a_TwiceTold a_TwiceTold
  replace M_NoYards_YardError : PySem.W.exmOne K (.ref L_NoYards.C) (.ref L_YardError.C) = some true := M_NoYards_YardError.of a_NoYards a_YardError
  replace M_BadYard_YardError : PySem.W.exmOne K (.ref L_BadYard.C) (.ref L_YardError.C) = some true := M_BadYard_YardError.of a_BadYard a_YardError
  replace M_TwiceTold_YardError : PySem.W.exmOne K (.ref L_TwiceTold.C) (.ref L_YardError.C) = some true := M_TwiceTold_YardError.of a_TwiceTold a_YardError
  replace M_NoYards_BadYard : PySem.W.exmOne K (.ref L_NoYards.C) (.ref L_BadYard.C) = some false := M_NoYards_BadYard.of a_NoYards a_BadYard
  replace M_NoYards_TwiceTold : PySem.W.exmOne K (.ref L_NoYards.C) (.ref L_TwiceTold.C) = some false := M_NoYards_TwiceTold.of a_NoYards a_TwiceTold
  replace M_NoYards_NoLane : PySem.W.exmOne K (.ref L_NoYards.C) (.ref L_NoLane.C) = some false := M_NoYards_NoLane.of a_NoYards a_NoLane
  replace M_BadYard_TwiceTold : PySem.W.exmOne K (.ref L_BadYard.C) (.ref L_TwiceTold.C) = some false := M_BadYard_TwiceTold.of a_BadYard a_TwiceTold
  replace M_BadYard_NoLane : PySem.W.exmOne K (.ref L_BadYard.C) (.ref L_NoLane.C) = some false := M_BadYard_NoLane.of a_BadYard a_NoLane
  replace M_TwiceTold_NoLane : PySem.W.exmOne K (.ref L_TwiceTold.C) (.ref L_NoLane.C) = some false := M_TwiceTold_NoLane.of a_TwiceTold a_NoLane
  replace N_NoYards : Fx.ClsAt K L_NoYards.C := N_NoYards.of a_NoYards
  replace N_BadYard : Fx.ClsAt K L_BadYard.C := N_BadYard.of a_BadYard
  replace N_TwiceTold : Fx.ClsAt K L_TwiceTold.C := N_TwiceTold.of a_TwiceTold
  replace V_NoYards : PySem.W.exmOne K (.ref L_NoYards.C) (.type "ValueError") = some true := V_NoYards.of a_NoYards
  replace V_BadYard : PySem.W.exmOne K (.ref L_BadYard.C) (.type "ValueError") = some true := V_BadYard.of a_BadYard
  replace V_TwiceTold : PySem.W.exmOne K (.ref L_TwiceTold.C) (.type "ValueError") = some true := V_TwiceTold.of a_TwiceTold
  let C_numbers_told : Cal l.prog w K mg base 1 "numbers_told" ["board"] spNums := ⟨f0, _, ok_nums F0 T, PySem.W.mg_of X G a0, F0.kp, b0⟩
  let C_holds_twice : Cal l.prog w K mg base 1 "holds_twice" ["parts"] spTwice := ⟨f1, _, ok_twice F1 T, PySem.W.mg_of X G a1, F1.kp, b1⟩
  let C_check_board : CalX l.prog w K mg base 2 "check_board" ["board"] (spCheck L_NoYards.C L_BadYard.C L_TwiceTold.C) := ⟨f2, _, ok_check F2 T L_NoYards L_BadYard L_TwiceTold C_numbers_told C_holds_twice, PySem.W.mg_of X G a2, F2.kp, b2⟩
  let C_ways_from : Cal l.prog w K mg base 1 "ways_from" ["board", "yard"] spWays := ⟨f3, _, ok_ways F3 T, PySem.W.mg_of X G a3, F3.kp, b3⟩
  let C_positions_of : Cal l.prog w K mg base 1 "positions_of" ["board"] spPositions := ⟨f4, _, ok_positions F4 T, PySem.W.mg_of X G a4, F4.kp, b4⟩
  let C_other_side : Cal l.prog w K mg base 1 "other_side" ["side"] spOther := ⟨f5, _, ok_other F5 T, PySem.W.mg_of X G a5, F5.kp, b5⟩
  let C_lanes_ahead : Cal l.prog w K mg base 2 "lanes_ahead" ["board", "position"] spAhead := ⟨f6, _, ok_ahead F6 T C_ways_from, PySem.W.mg_of X G a6, F6.kp, b6⟩
  let C_moved : Cal l.prog w K mg base 1 "moved" ["position", "yard"] spMoved := ⟨f7, _, ok_moved F7 T, PySem.W.mg_of X G a7, F7.kp, b7⟩
  let C_winner : Cal l.prog w K mg base 3 "winner" ["board", "position"] spWinner := ⟨f8, _, ok_winner F8 T C_lanes_ahead C_other_side, PySem.W.mg_of X G a8, F8.kp, b8⟩
  let C_ended_positions : Cal l.prog w K mg base 4 "ended_positions" ["board"] spEnded := ⟨f9, _, ok_ended F9 T C_positions_of C_winner, PySem.W.mg_of X G a9, F9.kp, b9⟩
  let C_positions_behind : Cal l.prog w K mg base 3 "positions_behind" ["board", "ended"] spBehind := ⟨f10, _, ok_behind F10 T C_positions_of C_lanes_ahead C_moved, PySem.W.mg_of X G a10, F10.kp, b10⟩
  let C_side_that_wins : Cal l.prog w K mg base 2 "side_that_wins" ["won", "turn", "behind"] spSide := ⟨f11, _, ok_side F11 T C_other_side, PySem.W.mg_of X G a11, F11.kp, b11⟩
  let C_newly_won : Cal l.prog w K mg base 3 "newly_won" ["won", "behind"] spNewly := ⟨f12, _, ok_newly F12 T C_side_that_wins, PySem.W.mg_of X G a12, F12.kp, b12⟩
  let C_won_positions : Cal l.prog w K mg base 5 "won_positions" ["board"] spWon := ⟨f13, _, ok_won F13 T C_ended_positions C_positions_behind C_newly_won, PySem.W.mg_of X G a13, F13.kp, b13⟩
  let C_move_told : Cal l.prog w K mg base 3 "move_told" ["board", "won", "position"] spMoveTold := ⟨f14, _, ok_moveTold F14 T C_lanes_ahead C_moved, PySem.W.mg_of X G a14, F14.kp, b14⟩
  let C_verdicts_on : CalX l.prog w K mg base 6 "verdicts_on" ["board"] (spVerdicts L_NoYards.C L_BadYard.C L_TwiceTold.C) := ⟨f15, _, ok_verdicts F15 T L_NoYards L_BadYard L_TwiceTold C_check_board C_won_positions C_positions_of C_move_told, PySem.W.mg_of X G a15, F15.kp, b15⟩
  let C_solved : CalX l.prog w K mg base 7 "solved" ["board"] (spBad1 L_NoYards.C L_BadYard.C L_TwiceTold.C) := ⟨f16, _, ok_solved F16 T L_NoYards L_BadYard L_TwiceTold C_verdicts_on, PySem.W.mg_of X G a16, F16.kp, b16⟩
  let C_best_move : CalX l.prog w K mg base 7 "best_move" ["board", "position"] (spBest L_NoYards.C L_BadYard.C L_TwiceTold.C L_AtAnEnd.C) := ⟨f17, _, ok_best F17 T L_NoYards L_BadYard L_TwiceTold L_AtAnEnd C_verdicts_on, PySem.W.mg_of X G a17, F17.kp, b17⟩
  let C_line_from : CalX l.prog w K mg base 7 "line_from" ["board", "position"] (spBad2 L_NoYards.C L_BadYard.C L_TwiceTold.C) := ⟨f18, _, ok_line F18 T L_NoYards L_BadYard L_TwiceTold C_verdicts_on, PySem.W.mg_of X G a18, F18.kp, b18⟩
  let C_played : CalX l.prog w K mg base 7 "played" ["board", "position", "side", "replies"] (spBad4 L_NoYards.C L_BadYard.C L_TwiceTold.C) := ⟨f19, _, ok_played F19 T L_NoYards L_BadYard L_TwiceTold C_verdicts_on, PySem.W.mg_of X G a19, F19.kp, b19⟩
  let C_judged : CalX l.prog w K mg base 7 "judged" ["board", "position", "moves"] (spBad3 L_NoYards.C L_BadYard.C L_TwiceTold.C) := ⟨f20, _, ok_judged F20 T L_NoYards L_BadYard L_TwiceTold C_verdicts_on, PySem.W.mg_of X G a20, F20.kp, b20⟩
  let C_tally : CalX l.prog w K mg base 7 "tally" ["board"] (spBad1 L_NoYards.C L_BadYard.C L_TwiceTold.C) := ⟨f21, _, ok_tally F21 T L_NoYards L_BadYard L_TwiceTold C_verdicts_on, PySem.W.mg_of X G a21, F21.kp, b21⟩
  let C__law_at : Cal l.prog w K mg base 1 "_law_at" ["_law_script", "_law_k"] spAt := ⟨f22, _, ok_at F22 T, PySem.W.mg_of X G a22, F22.kp, b22⟩
  let C__law_board_by : Cal l.prog w K mg base 2 "_law_board_by" ["_law_script"] (spBoard menuA) := ⟨f23, _, ok_board F23 T C__law_at, PySem.W.mg_of X G a23, F23.kp, b23⟩
  let C__law_spoilt : Cal l.prog w K mg base 1 "_law_spoilt" ["_law_board", "_law_way", "_law_seed"] spSpoilt := ⟨f24, _, ok_spoilt F24 T, PySem.W.mg_of X G a24, F24.kp, b24⟩
  let C__law_refusal : Cal l.prog w K mg base 1 "_law_refusal" ["_law_board"] spRefusal := ⟨f25, _, ok_refusal F25 T, PySem.W.mg_of X G a25, F25.kp, b25⟩
  let C__law_said : Cal l.prog w K mg base 8 "_law_said" ["_law_which", "_law_board"] spSaid := ⟨f26, _, ok_said F26 T L_NoYards L_BadYard L_TwiceTold L_AtAnEnd M_AtAnEnd_AtAnEnd M_NoYards_AtAnEnd M_NoYards_NoYards M_BadYard_AtAnEnd M_BadYard_NoYards M_BadYard_BadYard M_TwiceTold_AtAnEnd M_TwiceTold_NoYards M_TwiceTold_BadYard M_TwiceTold_TwiceTold C_check_board C_solved C_tally C_best_move C_line_from C_played C_judged, PySem.W.mg_of X G a26, F26.kp, b26⟩
  let C__law_mixed : Cal l.prog w K mg base 1 "_law_mixed" ["_law_script"] spMixed := ⟨f27, _, ok_mixed F27 T, PySem.W.mg_of X G a27, F27.kp, b27⟩
  let C__law_refuses : Cal l.prog w K mg base 8 "_law_refuses" ["_law_which", "_law_board"] spRefuses := ⟨f28, _, ok_refuses F28 T L_NoYards L_BadYard L_TwiceTold L_AtAnEnd L_NoLane L_YardError M_NoYards_YardError M_BadYard_YardError M_TwiceTold_YardError M_NoYards_NoYards M_NoYards_BadYard M_NoYards_TwiceTold M_NoYards_AtAnEnd M_NoYards_NoLane M_BadYard_NoYards M_BadYard_BadYard M_BadYard_TwiceTold M_BadYard_AtAnEnd M_BadYard_NoLane M_TwiceTold_NoYards M_TwiceTold_BadYard M_TwiceTold_TwiceTold M_TwiceTold_AtAnEnd M_TwiceTold_NoLane N_NoYards N_BadYard N_TwiceTold V_NoYards V_BadYard V_TwiceTold C_check_board C_solved C_tally C_best_move C_line_from C_played C_judged, PySem.W.mg_of X G a28, F28.kp, b28⟩
  exact ok_law F29 T C__law_at C__law_mixed C__law_board_by C__law_spoilt C__law_refusal C__law_said C__law_refuses
theorem walk {l : PySem.W.OpenLaw} {q : Program} {loose : List Str} {XP : (Str → Option Value) → Heap → Prop} {YP : World → Heap → Prop} {d : DefRec} {K : Params → PySem.W.Frag} (hn : l.most = some 63) (hdf : d.params.defaults = [])
    (hY : ∀ (w : World) (h : Heap), YP w h → (K w.params).In h)
    (F : ∀ (w : World) (mg : Str → Option Value) (fa : Addr) (h : Heap), (K w.params).In h → h.Ns mainGlobals mg → mg d.name = some (.ref fa) →
      ∃ fd : FuncData, (∀ (s : Shared) (u : Value), BindsTo s fd ⟨[u], []⟩ [("_law_script", u)]) ∧ ∀ base : Heap, (K w.params).In base → base.Ns mainGlobals mg → FnOk l.prog w (K w.params) mg base CX0 9 fa fd ["_law_script"] (spLaw (K w.params))) :
    PySem.W.WalkO q loose XP YP l.row.toRowW d [] (fun f vs => PySem.call f vs) :=
  L2.walk_of (n := 63) (k := 9) (x := "_law_script") (CX := fun _ => CX0) (sp := fun w => spLaw (K w.params)) hn (by decide) hdf ⟨rfl, by decide, by decide⟩ hY F (fun _ _ a ns hl _ hS => ⟨a, ns, rfl, hS, hl, fun _ => rfl⟩) fun _ _ _ _ _ z => z
end K02
open PySem PySem.W PyProof.Rows
set_option maxRecDepth 100000 in
set_option maxHeartbeats 0 in
theorem PySem.Challenge.cw_foxyard_k02_sound_boards_holds : PySem.Challenge.rw_foxyard_k02_sound_boards.Holds := by
  w_on; o_law; k_head; (case hw => w_witness2)
  k_fill
  refine K02.walk (l := PySem.Challenge.rw_foxyard_k02_sound_boards) rfl rfl (fun w h Y => PySem.W.kIn_of Y) ?F
  case F =>
    intro w mg fa h KX G hmg
    refine' K02.all_mk KX G hmg ?d0 ?d1 ?d2 ?d3 ?d4 ?d5 ?d6 ?d7 ?d8 ?d9 ?d10 ?d11 ?d12 ?d13 ?d14 ?d15 ?d16 ?d17 ?d18 ?d19 ?d20 ?d21 ?d22 ?d23 ?d24 ?d25 ?d26 ?d27 ?d28 ?d29 ?z_len ?z_set ?z_isinstance ?z_sorted ?z_range ?z_ValueError ?c_NoYards ?c_BadYard ?c_TwiceTold ?c_AtAnEnd ?c_NoLane ?c_YardError ?M_AtAnEnd_AtAnEnd ?M_NoYards_AtAnEnd ?M_NoYards_NoYards ?M_BadYard_AtAnEnd ?M_BadYard_NoYards ?M_BadYard_BadYard ?M_TwiceTold_AtAnEnd ?M_TwiceTold_NoYards ?M_TwiceTold_BadYard ?M_TwiceTold_TwiceTold ?M_NoYards_YardError ?M_BadYard_YardError ?M_TwiceTold_YardError ?M_NoYards_BadYard ?M_NoYards_TwiceTold ?M_NoYards_NoLane ?M_BadYard_TwiceTold ?M_BadYard_NoLane ?M_TwiceTold_NoLane ?N_NoYards ?N_BadYard ?N_TwiceTold ?V_NoYards ?V_BadYard ?V_TwiceTold
    (case d0 => (refine' K02.got_mk ?a ?l ?c ?k); (case a => k_is); (case l => k_is); (case c => k_is); (case k => k_is))
    (case d1 => (refine' K02.got_mk ?a ?l ?c ?k); (case a => k_is); (case l => k_is); (case c => k_is); (case k => k_is))
    (case d2 => (refine' K02.got_mk ?a ?l ?c ?k); (case a => k_is); (case l => k_is); (case c => k_is); (case k => k_is))
    (case d3 => (refine' K02.got_mk ?a ?l ?c ?k); (case a => k_is); (case l => k_is); (case c => k_is); (case k => k_is))
    (case d4 => (refine' K02.got_mk ?a ?l ?c ?k); (case a => k_is); (case l => k_is); (case c => k_is); (case k => k_is))
    (case d5 => (refine' K02.got_mk ?a ?l ?c ?k); (case a => k_is); (case l => k_is); (case c => k_is); (case k => k_is))
    (case d6 => (refine' K02.got_mk ?a ?l ?c ?k); (case a => k_is); (case l => k_is); (case c => k_is); (case k => k_is))
    (case d7 => (refine' K02.got_mk ?a ?l ?c ?k); (case a => k_is); (case l => k_is); (case c => k_is); (case k => k_is))
    (case d8 => (refine' K02.got_mk ?a ?l ?c ?k); (case a => k_is); (case l => k_is); (case c => k_is); (case k => k_is))
    (case d9 => (refine' K02.got_mk ?a ?l ?c ?k); (case a => k_is); (case l => k_is); (case c => k_is); (case k => k_is))
    (case d10 => (refine' K02.got_mk ?a ?l ?c ?k); (case a => k_is); (case l => k_is); (case c => k_is); (case k => k_is))
    (case d11 => (refine' K02.got_mk ?a ?l ?c ?k); (case a => k_is); (case l => k_is); (case c => k_is); (case k => k_is))
    (case d12 => (refine' K02.got_mk ?a ?l ?c ?k); (case a => k_is); (case l => k_is); (case c => k_is); (case k => k_is))
    (case d13 => (refine' K02.got_mk ?a ?l ?c ?k); (case a => k_is); (case l => k_is); (case c => k_is); (case k => k_is))
    (case d14 => (refine' K02.got_mk ?a ?l ?c ?k); (case a => k_is); (case l => k_is); (case c => k_is); (case k => k_is))
    (case d15 => (refine' K02.got_mk ?a ?l ?c ?k); (case a => k_is); (case l => k_is); (case c => k_is); (case k => k_is))
    (case d16 => (refine' K02.got_mk ?a ?l ?c ?k); (case a => k_is); (case l => k_is); (case c => k_is); (case k => k_is))
    (case d17 => (refine' K02.got_mk ?a ?l ?c ?k); (case a => k_is); (case l => k_is); (case c => k_is); (case k => k_is))
    (case d18 => (refine' K02.got_mk ?a ?l ?c ?k); (case a => k_is); (case l => k_is); (case c => k_is); (case k => k_is))
    (case d19 => (refine' K02.got_mk ?a ?l ?c ?k); (case a => k_is); (case l => k_is); (case c => k_is); (case k => k_is))
    (case d20 => (refine' K02.got_mk ?a ?l ?c ?k); (case a => k_is); (case l => k_is); (case c => k_is); (case k => k_is))
    (case d21 => (refine' K02.got_mk ?a ?l ?c ?k); (case a => k_is); (case l => k_is); (case c => k_is); (case k => k_is))
    (case d22 => (refine' K02.got_mk ?a ?l ?c ?k); (case a => k_is); (case l => k_is); (case c => k_is); (case k => k_is))
    (case d23 => (refine' K02.got_mk ?a ?l ?c ?k); (case a => k_is); (case l => k_is); (case c => k_is); (case k => k_is))
    (case d24 => (refine' K02.got_mk ?a ?l ?c ?k); (case a => k_is); (case l => k_is); (case c => k_is); (case k => k_is))
    (case d25 => (refine' K02.got_mk ?a ?l ?c ?k); (case a => k_is); (case l => k_is); (case c => k_is); (case k => k_is))
    (case d26 => (refine' K02.got_mk ?a ?l ?c ?k); (case a => k_is); (case l => k_is); (case c => k_is); (case k => k_is))
    (case d27 => (refine' K02.got_mk ?a ?l ?c ?k); (case a => k_is); (case l => k_is); (case c => k_is); (case k => k_is))
    (case d28 => (refine' K02.got_mk ?a ?l ?c ?k); (case a => k_is); (case l => k_is); (case c => k_is); (case k => k_is))
    (case d29 => (refine' K02.got_mk ?a ?l ?c ?k); (case a => k_is); (case l => k_is); (case c => k_is); (case k => k_is))
    (case z_len => k_is)
    (case z_set => k_is)
    (case z_isinstance => k_is)
    (case z_sorted => k_is)
    (case z_range => k_is)
    (case z_ValueError => k_is)
    (case c_NoYards => (refine' Fx.gotc_mk ?a ?e); (case a => k_is); (case e => k_exc))
    (case c_BadYard => (refine' Fx.gotc_mk ?a ?e); (case a => k_is); (case e => k_exc))
    (case c_TwiceTold => (refine' Fx.gotc_mk ?a ?e); (case a => k_is); (case e => k_exc))
    (case c_AtAnEnd => (refine' Fx.gotc_mk ?a ?e); (case a => k_is); (case e => k_exc))
    (case c_NoLane => (refine' Fx.gotc_mk ?a ?e); (case a => k_is); (case e => k_exc))
    (case c_YardError => (refine' Fx.gotc_mk ?a ?e); (case a => k_is); (case e => k_exc))
    (case M_AtAnEnd_AtAnEnd => (refine' Fx.gotm_mk ?a ?b ?e); (case a => k_is); (case b => k_is); (case e => kts_exm))
    (case M_NoYards_AtAnEnd => (refine' Fx.gotm_mk ?a ?b ?e); (case a => k_is); (case b => k_is); (case e => kts_exm))
    (case M_NoYards_NoYards => (refine' Fx.gotm_mk ?a ?b ?e); (case a => k_is); (case b => k_is); (case e => kts_exm))
    (case M_BadYard_AtAnEnd => (refine' Fx.gotm_mk ?a ?b ?e); (case a => k_is); (case b => k_is); (case e => kts_exm))
    (case M_BadYard_NoYards => (refine' Fx.gotm_mk ?a ?b ?e); (case a => k_is); (case b => k_is); (case e => kts_exm))
    (case M_BadYard_BadYard => (refine' Fx.gotm_mk ?a ?b ?e); (case a => k_is); (case b => k_is); (case e => kts_exm))
    (case M_TwiceTold_AtAnEnd => (refine' Fx.gotm_mk ?a ?b ?e); (case a => k_is); (case b => k_is); (case e => kts_exm))
    (case M_TwiceTold_NoYards => (refine' Fx.gotm_mk ?a ?b ?e); (case a => k_is); (case b => k_is); (case e => kts_exm))
    (case M_TwiceTold_BadYard => (refine' Fx.gotm_mk ?a ?b ?e); (case a => k_is); (case b => k_is); (case e => kts_exm))
    (case M_TwiceTold_TwiceTold => (refine' Fx.gotm_mk ?a ?b ?e); (case a => k_is); (case b => k_is); (case e => kts_exm))
    (case M_NoYards_YardError => (refine' Fx.gotm_mk ?a ?b ?e); (case a => k_is); (case b => k_is); (case e => kts_exm))
    (case M_BadYard_YardError => (refine' Fx.gotm_mk ?a ?b ?e); (case a => k_is); (case b => k_is); (case e => kts_exm))
    (case M_TwiceTold_YardError => (refine' Fx.gotm_mk ?a ?b ?e); (case a => k_is); (case b => k_is); (case e => kts_exm))
    (case M_NoYards_BadYard => (refine' Fx.gotm_mk ?a ?b ?e); (case a => k_is); (case b => k_is); (case e => kts_exm))
    (case M_NoYards_TwiceTold => (refine' Fx.gotm_mk ?a ?b ?e); (case a => k_is); (case b => k_is); (case e => kts_exm))
    (case M_NoYards_NoLane => (refine' Fx.gotm_mk ?a ?b ?e); (case a => k_is); (case b => k_is); (case e => kts_exm))
    (case M_BadYard_TwiceTold => (refine' Fx.gotm_mk ?a ?b ?e); (case a => k_is); (case b => k_is); (case e => kts_exm))
    (case M_BadYard_NoLane => (refine' Fx.gotm_mk ?a ?b ?e); (case a => k_is); (case b => k_is); (case e => kts_exm))
    (case M_TwiceTold_NoLane => (refine' Fx.gotm_mk ?a ?b ?e); (case a => k_is); (case b => k_is); (case e => kts_exm))
    (case N_NoYards => (refine' Fx.gotn_mk ?a ?e1 ?e2 ?e3 ?e4 ?e5 ?e6 ?e7); (case a => k_is); (case e1 => k_is); (case e2 => k_is); (case e3 => k_is); (case e4 => k_is); (case e5 => k_is); (case e6 => k_is); (case e7 => k_is))
    (case N_BadYard => (refine' Fx.gotn_mk ?a ?e1 ?e2 ?e3 ?e4 ?e5 ?e6 ?e7); (case a => k_is); (case e1 => k_is); (case e2 => k_is); (case e3 => k_is); (case e4 => k_is); (case e5 => k_is); (case e6 => k_is); (case e7 => k_is))
    (case N_TwiceTold => (refine' Fx.gotn_mk ?a ?e1 ?e2 ?e3 ?e4 ?e5 ?e6 ?e7); (case a => k_is); (case e1 => k_is); (case e2 => k_is); (case e3 => k_is); (case e4 => k_is); (case e5 => k_is); (case e6 => k_is); (case e7 => k_is))
    (case V_NoYards => (refine' Fx.gotv_mk ?a ?e); (case a => k_is); (case e => kts_exm))
    (case V_BadYard => (refine' Fx.gotv_mk ?a ?e); (case a => k_is); (case e => kts_exm))
    (case V_TwiceTold => (refine' Fx.gotv_mk ?a ?e); (case a => k_is); (case e => kts_exm))
