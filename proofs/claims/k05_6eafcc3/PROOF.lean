import PyProof.Rows.All
import Wide.All
import OpenK.AllK
import Wide.FinOn
import Lean
import PyProof.EqAt
import PyProof.EqKinds
import PyProof.TupleCall
import KE.KIsAll
import PyProof.P3Eq
import PyProof.P3In
import PyProof.NeData
import OpenK.KOwn
import PyProof.ExcBaseAll.ValueError
import KE.KTryMore
import KE.RegKTryMore
import PyProof.DictValues
import PyProof.DictWalks
import PyProof.Rows.CountFlat
import PySem.Challenge.RW_foxyard_k05_whole_winner_wins
noncomputable section
set_option Elab.async false
set_option linter.all false
set_option maxRecDepth 100000
namespace L2
open PySem PySem.Spec PyProof.Rows

/-- a key: an int or a str -/
abbrev Key := Sum Int Str
def keyIs : Key → Value → Bool
  | .inl k, v => Value.isInt k v
  | .inr x, v => Value.isStrOf x v
def keyH (w : World) : Key → Int
  | .inl k => hashInt k
  | .inr x => hashStr w x
theorem keyIs_shape : ∀ {k : Key} {v : Value}, keyIs k v = true → (∃ i t, k = Sum.inl i ∧ v = Value.int i t) ∨ (∃ x t, k = Sum.inr x ∧ v = Value.str x t)
  | .inl i, v, h => by
    obtain ⟨t, e⟩ := Value.isInt_shape (k := i) (v := v) h
    exact .inl ⟨i, t, rfl, e⟩
  | .inr x, v, h => by
    obtain ⟨t, e⟩ := Value.isStrOf_shape (x := x) (v := v) h
    exact .inr ⟨x, t, rfl, e⟩
theorem keyIs_int (i : Int) (t : Tok) : keyIs (.inl i) (.int i t) = true := by simp [keyIs, Value.isInt]
theorem keyIs_str (x : Str) (t : Tok) : keyIs (.inr x) (.str x t) = true := by simp [keyIs, Value.isStrOf]
theorem key_ll (a b : Int) : decide ((Sum.inl a : Key) = Sum.inl b) = (a == b) := by
  by_cases e : a = b
  · subst e; simp
  · have h : ¬ (Sum.inl a : Key) = Sum.inl b := fun q => e (Sum.inl.inj q)
    rw [decide_eq_false h]
    exact (beq_eq_false_iff_ne.mpr e).symm
theorem key_rr (a b : Str) : decide ((Sum.inr a : Key) = Sum.inr b) = decide (a = b) := by
  by_cases e : a = b
  · subst e; simp
  · have h : ¬ (Sum.inr a : Key) = Sum.inr b := fun q => e (Sum.inr.inj q)
    rw [decide_eq_false h, decide_eq_false e]
theorem key_lr (a : Int) (b : Str) : decide ((Sum.inl a : Key) = Sum.inr b) = false := decide_eq_false (fun q => nomatch q)
theorem key_rl (a : Str) (b : Int) : decide ((Sum.inr a : Key) = Sum.inl b) = false := decide_eq_false (fun q => nomatch q)

def mixKind (prog : Program) (w : World) : PySem.KeyKind prog w Key where
  is := keyIs
  hash := keyH w
  inj := fun v a b ha hb => by
    rcases keyIs_shape ha with ⟨i, t, rfl, rfl⟩ | ⟨x, t, rfl, rfl⟩
    · rcases keyIs_shape hb with ⟨j, u, rfl, e⟩ | ⟨y, u, rfl, e⟩
      · injection e with e1 _; rw [e1]
      · exact nomatch e
    · rcases keyIs_shape hb with ⟨j, u, rfl, e⟩ | ⟨y, u, rfl, e⟩
      · exact nomatch e
      · injection e with e1 _; rw [e1]
  byValue := fun k v h => by
    rcases keyIs_shape h with ⟨i, t, rfl, rfl⟩ | ⟨x, t, rfl, rfl⟩ <;> rfl
  pyHash := fun hv h => by
    rcases keyIs_shape hv with ⟨i, t, rfl, rfl⟩ | ⟨x, t, rfl, rfl⟩
    · exact wpAny_pyHash_int h
    · exact wpAny_pyHash_str h
  eqBool := fun hu hv h => by
    rcases keyIs_shape hu with ⟨i, t, rfl, rfl⟩ | ⟨x, t, rfl, rfl⟩
    · rcases keyIs_shape hv with ⟨j, u, rfl, rfl⟩ | ⟨y, u, rfl, rfl⟩
      · rw [key_ll] at h; exact wpAny_eqBool_int h
      · rw [key_lr] at h; exact SeqAt.EqAt.int_str i t y u _ _ _ _ h
    · rcases keyIs_shape hv with ⟨j, u, rfl, rfl⟩ | ⟨y, u, rfl, rfl⟩
      · rw [key_rl] at h; exact SeqAt.EqAt.str_int x t j u _ _ _ _ h
      · rw [key_rr] at h; exact wpAny_eqBool_str h
  «strs» := fun k x t v h => by
    rcases keyIs_shape h with ⟨i, u, rfl, e⟩ | ⟨y, u, rfl, e⟩
    · exact nomatch e
    · injection e with e1 _
      subst e1
      cases v <;> rfl

theorem mixKind_int (prog : Program) (w : World) (i : Int) (t : Tok) : (mixKind prog w).is (.inl i) (.int i t) = true := keyIs_int i t
theorem mixKind_str (prog : Program) (w : World) (x : Str) (t : Tok) : (mixKind prog w).is (.inr x) (.str x t) = true := keyIs_str x t
end L2

namespace L2
open PySem PySem.Spec PyProof.Rows

/-- a value, without the heap -/
inductive V where
  | non | bl (b : Bool) | int (i : Int) | str (x : Str) | byt (b : Array UInt8) | flt (b : UInt64) | ref (a : Addr) | ty (n : String)
  deriving DecidableEq

def RelV : V → Value → Prop
  | .non, u => u = Value.none
  | .bl b, u => u = Value.bool b
  | .int i, u => ∃ t, u = Value.int i t
  | .str x, u => ∃ t, u = Value.str x t
  | .byt b, u => ∃ t, u = Value.bytes b t
  | .flt b, u => ∃ t, u = Value.float b t
  | .ref a, u => u = Value.ref a
  | .ty n, u => u = Value.type n

abbrev Vals : List V → List Value → Prop := Paired RelV
theorem Vals.length {xs : List V} {us : List Value} (r : Vals xs us) : xs.length = us.length := Paired.length r
theorem Vals.get : ∀ {xs : List V} {us : List Value} {i : Nat} {x : V}, Vals xs us → xs[i]? = some x → ∃ u, us[i]? = some u ∧ RelV x u
  | _, _, _, _, .nil, e => by simp at e
  | _, _, 0, _, .cons r _, e => by simp at e; subst e; exact ⟨_, rfl, r⟩
  | _, _, i + 1, x, .cons _ t, e => by
    obtain ⟨u, h1, h2⟩ := Vals.get (i := i) (x := x) t (by simpa using e)
    exact ⟨u, by simpa using h1, h2⟩
theorem Vals.set {x : V} {u : Value} (r : RelV x u) : ∀ {xs : List V} {us : List Value} (i : Nat), Vals xs us → Vals (xs.set i x) (us.set i u)
  | _, _, _, .nil => .nil
  | _, _, 0, .cons _ t => .cons r t
  | _, _, i + 1, .cons q t => .cons q (Vals.set r i t)
theorem Vals.append : ∀ {xs ys : List V} {us ws : List Value}, Vals xs us → Vals ys ws → Vals (xs ++ ys) (us ++ ws)
  | _, _, _, _, .nil, s => s
  | _, _, _, _, .cons r t, s => .cons r (Vals.append t s)
theorem Vals.take : ∀ {xs : List V} {us : List Value} (n : Nat), Vals xs us → Vals (xs.take n) (us.take n)
  | _, _, 0, _ => .nil
  | _, _, _ + 1, .nil => .nil
  | _, _, n + 1, .cons r t => .cons r (Vals.take n t)
theorem Vals.drop : ∀ {xs : List V} {us : List Value} (n : Nat), Vals xs us → Vals (xs.drop n) (us.drop n)
  | _, _, 0, r => r
  | _, _, _ + 1, .nil => .nil
  | _, _, n + 1, .cons _ t => Vals.drop n t
def RelO : Option V → Option Value → Prop
  | some v, some u => RelV v u
  | none, none => True
  | _, _ => False
def KV {κ : Type} : List (κ × V) → List (κ × Value) → Prop := Paired fun (p : κ × V) (q : κ × Value) => p.1 = q.1 ∧ RelV p.2 q.2

/-- a key of a dict (00_mix): an int or a text -/
def kV : Key → V
  | .inl i => .int i
  | .inr x => .str x

/-- what stands at a tracked address -/
inductive HO where
  /-- a list -/
  | lst (xs : List V)
  /-- a tuple (never changes) -/
  | tup (xs : List V)
  /-- a dict whose keys are ints and texts; one whose keys are tuples of ints and texts (the empty one is both) -/
  | dK (kvs : List (Key × V)) | dT (kvs : List (List Key × V))
  /-- a set of ints: its members, its size -/
  | set (S : Int → Bool) (n : Nat)
  /-- an instance of the class at C, its dict at dx, its attributes -/
  | ins (C dx : Addr) (fs : List (Str × V))
  /-- the dict of the instance at x -/
  | own (x : Addr)
  /-- the dict of an exception -/
  | xd (fs : List (Str × V))
  /-- a bound method, f of x -/
  | met (f x : Addr)
  /-- a range object lo, lo + 1, .. below hi -/
  | rng (lo hi : Int)
  /-- a thing that is known to the object (the script; a dict while a loop walks it): read, never written while it is so -/
  | frz (o : Obj) (u : HO)
  /-- a code object's table -/
  | tbl (ps : Array Value)
  /-- any other thing, by what is true of its one object (a def of one's own: SetO a S n := HO.ext fun h => ..) -/
  | ext (φ : Heap → Prop)

abbrev Hp := Addr → Option HO
def upd (H : Hp) (a : Addr) (o : HO) : Hp := fun b => if b = a then some o else H b
theorem upd_same {H : Hp} {a : Addr} {o : HO} : upd H a o a = some o := by unfold upd; rw [if_pos rfl]
theorem upd_ne {H : Hp} {a b : Addr} {o : HO} (h : b ≠ a) : upd H a o b = H b := by unfold upd; rw [if_neg h]
/-- two objects of different content stand apart -/
theorem ne_of {H : Hp} {a b : Addr} {o u : HO} (h : H a = some o) (h' : H b = some u) (d : o ≠ u) : a ≠ b := by
  intro e; subst e; rw [h] at h'; exact d (Option.some.inj h')
theorem ne_of_none {H : Hp} {a b : Addr} {o : HO} (h : H a = some o) (h' : H b = none) : a ≠ b := by
  intro e; subst e; rw [h] at h'; cases h'

section
variable (P : Program) (w : World)
def ObjOk (H : Hp) (h : Heap) (a : Addr) : HO → Prop
  | .lst xs => xs.length ≤ sizeLine ∧ ∃ (its : List Value) (n : Nat), Vals xs its ∧ h.get? a = some { cls := .type "list", data := .seq its.toArray n }
  | .tup xs => xs.length ≤ sizeLine ∧ ∃ its : List Value, Vals xs its ∧ IsTup h a its.toArray
  | .dK kvs => kvs.length ≤ sizeLine ∧ (a == sysModules) = false ∧ ∃ vs, KV kvs vs ∧ h.DictOf (mixKind P w) a vs
  | .dT kvs => kvs.length ≤ sizeLine ∧ (a == sysModules) = false ∧ ∃ xs : List (List Key × Addr × Value),
      Paired (fun (p : List Key × V) (q : List Key × Addr × Value) => p.1 = q.1 ∧ H q.2.1 = some (.tup (p.1.map kV)) ∧ RelV p.2 q.2.2) kvs xs ∧
      ∃ o es ep, h.get? a = some o ∧ o.ExactDict ∧ o.data = .dict es ep ∧ es.toList = xs.map (entryOfKey (tupleKind (mixKind P w))) ∧ (xs.map (·.1)).Nodup
  | .set S n => h.SetOf (intKind P w) a S n
  | .ins C dx fs => H dx = some (.own a) ∧ fs.length ≤ 1000 ∧ dx ≠ a ∧ h.get? a = some (PySem.W.instObj C dx) ∧
      ∃ mA, h.Ns1 dx mA ∧ (∀ f, RelO (fs.lookup f) (mA f)) ∧ PySem.Within mA (fs.map (·.1))
  | .own _ => ∃ o, h.get? a = some o
  | .xd fs => ∃ mA, h.Ns1 a mA ∧ ∀ f, RelO (fs.lookup f) (mA f)
  | .rng lo hi => ∃ t u v, h.get? a = some { cls := .type "range", data := .fields #[.int lo t, .int hi u, .int 1 v] }
  | .frz o u => h.get? a = some o ∧ ObjOk H h a u
  | .tbl ps => h.get? a = some { cls := .none, data := .fields ps }
  | .met f x => h.get? a = some (PySem.W.methodObj (.ref f) (.ref x))
  | .ext φ => φ h ∧ (∃ o, h.get? a = some o) ∧ ∀ h1 h2 : Heap, φ h1 → (∀ o, h1.get? a = some o → h2.get? a = some o) → φ h2
/-- the abstract heap is held -/
def HOk (H : Hp) (h : Heap) : Prop := ∀ a o, H a = some o → ObjOk P w H h a o
end

section
variable {P : Program} {w : World} {H H' : Hp} {h h' : Heap} {a : Addr} {o : HO}
theorem ObjOk.lt (x : ObjOk P w H h a o) : a < h.objs.size := by
  cases o with
  | lst xs => obtain ⟨_, _, _, _, e⟩ := x; exact Heap.lt_size e
  | tup xs => obtain ⟨_, _, _, p⟩ := x; exact p.lt
  | dK kvs => obtain ⟨_, _, _, _, o, _, _, e, _⟩ := x; exact Heap.lt_size e
  | dT kvs => obtain ⟨_, _, _, _, o, _, _, e, _⟩ := x; exact Heap.lt_size e
  | set S n => obtain ⟨o, _, _, _, e, _⟩ := x; exact Heap.lt_size e
  | ins C dx fs => obtain ⟨_, _, _, e, _⟩ := x; exact Heap.lt_size e
  | own y => obtain ⟨_, e⟩ := x; exact Heap.lt_size e
  | xd fs => obtain ⟨_, ⟨_, _, _, e, _⟩, _⟩ := x; exact Heap.lt_size e
  | rng lo hi => obtain ⟨_, _, _, e⟩ := x; exact Heap.lt_size e
  | frz ob u => obtain ⟨e, _⟩ := x; exact Heap.lt_size e
  | tbl ps => exact Heap.lt_size (show h.get? a = some _ from x)
  | met f y => exact Heap.lt_size (show h.get? a = some _ from x)
  | ext φ => obtain ⟨_, ⟨_, e⟩, _⟩ := x; exact Heap.lt_size e
theorem Paired.mapP {α β : Type} {F G : α → β → Prop} : ∀ {l₁ : List α} {l₂ : List β}, Paired F l₁ l₂ → (∀ a b, F a b → G a b) → Paired G l₁ l₂
  | _, _, .nil, _ => .nil
  | _, _, .cons r t, f => .cons (f _ _ r) (Paired.mapP t f)
/-- what an object's description leans on: its own object, its own dict, the tuples -/
theorem ObjOk.stay (x : ObjOk P w H h a o) (k : ∀ b u, (b = a ∨ H b = some (.own a)) → h.get? b = some u → h'.get? b = some u)
    (ho : ∀ b, H b = some (.own a) → H' b = some (.own a)) (ht : ∀ b xs, H b = some (.tup xs) → H' b = some (.tup xs)) : ObjOk P w H' h' a o := by
  induction o with
  | lst xs => obtain ⟨z, its, n, r, e⟩ := x; exact ⟨z, its, n, r, k _ _ (.inl rfl) e⟩
  | tup xs => obtain ⟨z, its, r, ob, e, c⟩ := x; exact ⟨z, its, r, ob, k _ _ (.inl rfl) e, c⟩
  | dK kvs => obtain ⟨z, y, vs, r, ob, es, ep, e, c⟩ := x; exact ⟨z, y, vs, r, ob, es, ep, k _ _ (.inl rfl) e, c⟩
  | dT kvs =>
    obtain ⟨z, y, xs, r, ob, es, ep, e, c⟩ := x
    exact ⟨z, y, xs, Paired.mapP r fun p q z => ⟨z.1, ht _ _ z.2.1, z.2.2⟩, ob, es, ep, k _ _ (.inl rfl) e, c⟩
  | set S n => obtain ⟨ob, es, ep, t, e, c⟩ := x; exact ⟨ob, es, ep, t, k _ _ (.inl rfl) e, c⟩
  | ins C dx fs =>
    obtain ⟨d, z, ne, e, mA, ⟨od, es, ep, e2, c⟩, r⟩ := x
    exact ⟨ho _ d, z, ne, k _ _ (.inl rfl) e, mA, ⟨od, es, ep, k _ _ (.inr d) e2, c⟩, r⟩
  | own y => obtain ⟨ob, e⟩ := x; exact ⟨ob, k _ _ (.inl rfl) e⟩
  | xd fs => obtain ⟨mA, ⟨od, es, ep, e, c⟩, r⟩ := x; exact ⟨mA, ⟨od, es, ep, k _ _ (.inl rfl) e, c⟩, r⟩
  | rng lo hi => obtain ⟨t, u, v, e⟩ := x; exact ⟨t, u, v, k _ _ (.inl rfl) e⟩
  | frz ob u ih => obtain ⟨e, q⟩ := x; exact ⟨k _ _ (.inl rfl) e, ih q⟩
  | tbl ps =>
    have e : h.get? a = some { cls := .none, data := .fields ps } := x
    show h'.get? a = some { cls := .none, data := .fields ps }
    exact k a _ (.inl rfl) e
  | met f y =>
    have e : h.get? a = some (PySem.W.methodObj (.ref f) (.ref y)) := x
    show h'.get? a = some (PySem.W.methodObj (.ref f) (.ref y))
    exact k a _ (.inl rfl) e
  | ext φ => obtain ⟨p, ⟨o, e⟩, st⟩ := x; exact ⟨st _ _ p fun o q => k _ _ (.inl rfl) q, ⟨o, k _ _ (.inl rfl) e⟩, st⟩
theorem HOk.lt (x : HOk P w H h) (e : H a = some o) : a < h.objs.size := (x a o e).lt
theorem HOk.fresh (x : HOk P w H h) (e : h.objs.size ≤ a) : H a = none := by
  cases q : H a with
  | none => rfl
  | some u => exact absurd (Nat.lt_of_lt_of_le (x.lt q) e) (Nat.lt_irrefl _)
/-- every object of the heap is kept -/
theorem HOk.kept (x : HOk P w H h) (k : ∀ b u, h.get? b = some u → h'.get? b = some u) : HOk P w H h' := fun a o e =>
  (x a o e).stay (fun b u _ q => k b u q) (fun _ q => q) fun _ _ q => q
/-- a new object is laid and tracked -/
theorem HOk.laid (x : HOk P w H h) (k : ∀ b u, h.get? b = some u → h'.get? b = some u) (hp : h.objs.size ≤ a) (new : ObjOk P w (upd H a o) h' a o) : HOk P w (upd H a o) h' := fun b u e => by
  have hn := x.fresh hp
  by_cases hb : b = a
  · subst hb; rw [upd_same] at e; cases e; exact new
  · rw [upd_ne hb] at e
    exact (x b u e).stay (fun c v _ q => k c v q) (fun c q => by rw [upd_ne (ne_of_none q hn)]; exact q) fun c xs q => by rw [upd_ne (ne_of_none q hn)]; exact q
end

/-- what may be read as u: it is u, or a known u -/
def Rd (H : Hp) (a : Addr) (u : HO) : Prop := H a = some u ∨ ∃ o, H a = some (.frz o u)
theorem Rd.ok {P : Program} {w : World} {H : Hp} {h : Heap} {a : Addr} {u : HO} (r : Rd H a u) (x : HOk P w H h) : ObjOk P w H h a u := by
  rcases r with r | ⟨o, r⟩
  · exact x a u r
  · obtain ⟨_, q⟩ := x a _ r
    exact q
/-- what may be written -/
def Mut : Option HO → Prop
  | some (.lst _) => True
  | some (.dK _) => True
  | some (.dT _) => True
  | some (.set _ _) => True
  | some (.ins _ _ _) => True
  | some (.ext _) => True
  | _ => False
section
variable {P : Program} {w : World} {H : Hp} {h h' : Heap} {x e : Addr} {o' : HO}
/-- the object at e is changed: x itself, or the dict of the instance x -/
theorem HOk.write (ok : HOk P w H h) (mu : Mut (H x)) (he : e = x ∨ H e = some (.own x)) (k : ∀ b u, b ≠ e → h.get? b = some u → h'.get? b = some u) (heo : ∃ u, h'.get? e = some u)
    (new : ObjOk P w (upd H x o') h' x o') : HOk P w (upd H x o') h' := fun b u q => by
  have nown : ∀ c y, H c = some (.own y) → c ≠ x := fun c y r z => by subst z; rw [r] at mu; exact mu
  have ntup : ∀ c xs, H c = some (.tup xs) → c ≠ x := fun c xs r z => by subst z; rw [r] at mu; exact mu
  by_cases hb : b = x
  · subst hb; rw [upd_same] at q; cases q; exact new
  · rw [upd_ne hb] at q
    by_cases hbe : b = e
    · have q' : H b = some (.own x) := by
        rcases he with z | z
        · exact absurd (hbe.trans z) hb
        · rw [hbe]; exact z
      rw [q] at q'; cases q'
      obtain ⟨v, hv⟩ := heo
      exact ⟨v, by rw [hbe]; exact hv⟩
    · refine (ok b u q).stay (fun c v hc r => k c v ?_ r) (fun c r => by rw [upd_ne (nown c b r)]; exact r) fun c xs r => by rw [upd_ne (ntup c xs r)]; exact r
      rcases hc with rfl | hc
      · exact hbe
      · rintro rfl
        rcases he with z | z
        · exact nown c b hc z
        · rw [hc] at z; cases z; exact hb rfl
end

/-! ### kept unless tracked; of the frames at fs (the callers') the slots may change (an exception that passes writes there); of the records at ex (iterators) nothing is said -/
structure Un (fs ex : List Addr) (H H' : Hp) (h h' : Heap) : Prop where
  keep : ∀ b o, h.get? b = some o → H b = none → b ∉ fs → b ∉ ex → h'.get? b = some o
  slot : ∀ b o, h.get? b = some o → H b = none → b ∈ fs → b ∉ ex → ∃ sl, h'.get? b = some { o with slots := sl }
  free : ∀ b o, h.get? b = some o → H b = none → b ∉ ex → H' b = none
  there : ∀ b o, h.get? b = some o → b ∉ ex → ∃ o', h'.get? b = some o'
  tups : ∀ b xs, H b = some (.tup xs) → H' b = some (.tup xs)
  frzs : ∀ b o u, H b = some (.frz o u) → H' b = some (.frz o u)
  tbls : ∀ b ps, H b = some (.tbl ps) → ∃ more, H' b = some (.tbl (ps ++ more))
section
variable {fs fs' ex ex' : List Addr} {H H1 H2 : Hp} {h h1 h2 h' : Heap} {a x e : Addr} {o : HO}
theorem Un.any (u : Un fs ex H H1 h h1) {b : Addr} {ob : Obj} (q : h.get? b = some ob) (n : H b = none) (hx : b ∉ ex) : ∃ sl, h1.get? b = some { ob with slots := sl } := by
  by_cases hb : b ∈ fs
  · exact u.slot b ob q n hb hx
  · exact ⟨ob.slots, u.keep b ob q n hb hx⟩
theorem Un.kept (k : ∀ b u, h.get? b = some u → h'.get? b = some u) : Un fs ex H H h h' :=
  ⟨fun b ob q _ _ _ => k b ob q, fun b ob q _ _ _ => ⟨ob.slots, k b ob q⟩, fun _ _ _ n _ => n, fun b ob q _ => ⟨ob, k b ob q⟩, fun _ _ q => q, fun _ _ _ q => q, fun _ ps q => ⟨#[], by rw [q]; simp⟩⟩
theorem Un.refl : Un fs ex H H h h := Un.kept fun _ _ q => q
theorem Un.laid (k : ∀ b u, h.get? b = some u → h'.get? b = some u) (hp : h.objs.size ≤ a) (hn : H a = none) : Un fs ex H (upd H a o) h h' where
  keep := fun b u q _ _ _ => k b u q
  slot := fun b u q _ _ _ => ⟨u.slots, k b u q⟩
  free := fun b u q n _ => by rw [upd_ne (Nat.ne_of_lt (Nat.lt_of_lt_of_le (Heap.lt_size q) hp))]; exact n
  there := fun b u q _ => ⟨u, k b u q⟩
  tups := fun b xs q => by rw [upd_ne (ne_of_none q hn)]; exact q
  frzs := fun b u xs q => by rw [upd_ne (ne_of_none q hn)]; exact q
  tbls := fun b ps q => ⟨#[], by rw [upd_ne (ne_of_none q hn), q]; simp⟩
theorem Un.write (mu : Mut (H x)) (he : e = x ∨ H e = some (.own x)) (k : ∀ b u, b ≠ e → h.get? b = some u → h'.get? b = some u) (heo : ∃ u, h'.get? e = some u) : Un fs ex H (upd H x o) h h' := by
  have hx : ∀ b, H b = none → b ≠ x := fun b n z => by subst z; rw [n] at mu; exact mu
  have hb : ∀ b, H b = none → b ≠ e := fun b n z => by
    subst z
    rcases he with r | r
    · exact hx b n r
    · rw [n] at r; cases r
  have hm : ∀ b u, H b = some u → ¬ Mut (some u) → b ≠ x := fun b u q nm z => by subst z; rw [q] at mu; exact nm mu
  refine ⟨fun b u q n _ _ => k b u (hb b n) q, fun b u q n _ _ => ⟨u.slots, k b u (hb b n) q⟩, fun b u q n _ => by rw [upd_ne (hx b n)]; exact n, fun b u q _ => ?_,
    fun b xs q => by rw [upd_ne (hm b _ q fun z => z)]; exact q, fun b u xs q => by rw [upd_ne (hm b _ q fun z => z)]; exact q, fun b ps q => ⟨#[], by rw [upd_ne (hm b _ q fun z => z), q]; simp⟩⟩
  by_cases hbe : b = e
  · subst hbe; exact heo
  · exact ⟨u, k b u hbe q⟩
end

/-! ### the heap without what is tracked -/
def trk (h : Heap) (H : Hp) : List Addr := (List.range h.objs.size).filter fun a => (H a).isSome
def hidT (h : Heap) (H : Hp) : Heap := PySem.W.hideAll h (trk h H)
theorem hidT_size (h : Heap) (H : Hp) : (hidT h H).objs.size = h.objs.size := PySem.W.hideAll_size _ _
theorem hidT_get {h : Heap} {H : Hp} {b : Addr} {o : Obj} (e : h.get? b = some o) (n : H b = none) : (hidT h H).get? b = some o :=
  PySem.W.hideAll_get _ e fun hm => by
    have q : (H b).isSome = true := (List.mem_filter.mp hm).2
    rw [n] at q; simp at q
theorem of_hidT {h : Heap} {H : Hp} {b : Addr} {o : Obj} (e : (hidT h H).get? b = some o) : h.get? b = some o ∧ H b = none := by
  have e' : h.get? b = some o := PySem.W.of_hideAll (trk h H) e
  refine ⟨e', ?_⟩
  cases q : H b with
  | none => rfl
  | some x =>
    have hm : b ∈ trk h H := List.mem_filter.mpr ⟨List.mem_range.mpr (Heap.lt_size e'), by simp [q]⟩
    have z : (hidT h H).get? b = none := PySem.W.hideAll_none (trk h H) hm
    rw [z] at e; cases e

/-! ### OpenK's ledger, filled with every new object but one -/
def allNews (g h : Heap) (L : Addr) : List (Addr × Obj) := (List.range h.objs.size).filterMap fun a => if a = L ∨ (g.get? a).isSome = true then none else (h.get? a).map fun o => (a, o)
def rest (g h : Heap) (L d : Addr) : List (Addr × Obj) := (allNews g h L).filter fun p => decide (p.1 ≠ d)
end L2

namespace L2
open PySem PySem.Spec PyProof.Rows

/-- the module's facts, over the base: the heap at the law's entry without what is tracked there -/
structure Mod (K : PySem.W.Frag) (mg : Str → Option Value) (base : Heap) : Prop where
  kin : K.In base
  glob : base.Ns mainGlobals mg
  blt : ∃ mb, base.Ns builtinsNs mb ∧ ∀ x : Str, x ≠ "__name__" → mb x = bootBuiltins x
  nolimit : base.NoLimit

/-- the context: a def's body (or a comprehension's block) running. base: fixed through the whole law; s₀, H₀: the entry; outer: the frames whose slots others may change (a def's callers); stack: all frames that run;
   ex: iterators that were made ahead of the entry and are walked here (a comprehension's); fn: the names whose cells were made at the entry (a def: all; a comprehension's block: its own); calm: not within an except suite; pn: pins that every state bears; xe: what is wanted of an exception that leaves the code -/
structure Cx where
  prog : Program
  w : World
  K : PySem.W.Frag
  mg : Str → Option Value
  base : Heap
  A : Around
  N : List Str
  s₀ : Shared
  H₀ : Hp
  env : Env
  outer : List Env
  stack : List Env
  ex : List Addr
  fn : Str → Bool
  calm : Bool
  pn : List (Addr × Obj)
  xe : Value → Shared → Prop
/-- the callers' frames -/
def frs (l : List Env) : List Addr := l.filterMap (·.frame)
abbrev Cx.fs (X : Cx) : List Addr := frs X.outer

def Vis (sc : Scope) (x : Str) : Prop := sc.names.lookup x = some .local ∨ sc.names.lookup x = some .cell ∨ sc.names.lookup x = some .free
def Loc (sc : Scope) (x : Str) : Prop := sc.names.lookup x = some .local ∨ sc.names.lookup x = some .cell
def Look (env : Env) (h : Heap) (m : Str → Option Value) (x : Str) (u : Value) : Prop :=
  (env.kindOf x = some .local ∧ m x = some u) ∨ ((env.kindOf x = some .cell ∨ env.kindOf x = some .free) ∧ ∃ c, env.cells.lookup x = some c ∧ h.IsCell c (some u))

structure Cx.Ok (X : Cx) : Prop where
  mod : Mod X.K X.mg X.base
  kind : X.env.scope.kind = .function
  glob : X.env.globals = mainGlobals
  blt : X.env.builtins = builtinsNs
  above : X.s₀.heap.objs.size ≤ X.env.locals
  inj : ∀ x y c, X.env.cells.lookup x = some c → X.env.cells.lookup y = some c → x = y
  has : ∀ x, (X.env.kindOf x = some .cell ∨ X.env.kindOf x = some .free) → ∃ c, X.env.cells.lookup x = some c
  cab : ∀ x c, X.fn x = true → X.env.cells.lookup x = some c → X.s₀.heap.objs.size ≤ c
  hd : X.calm = true → X.A.handled = none
  frames : X.A.frames = some X.stack
  stk : X.stack = X.outer ∨ (X.stack = X.env :: X.outer ∧ X.env.frame = some X.env.locals)
  exf : ∀ b ∈ X.ex, b ≠ X.env.locals ∧ ∀ x c, X.env.cells.lookup x = some c → c ≠ b
  bs : ∀ b o, X.base.get? b = some o → X.s₀.heap.get? b = some o ∧ X.H₀ b = none
  bsz : X.base.objs.size ≤ X.s₀.heap.objs.size
  noex : ∀ b o, X.base.get? b = some o → b ∉ X.ex
  exfs : ∀ b ∈ X.ex, b ∉ X.fs
  funs : X.s₀.heap.FunFrames X.base X.outer
  frf : ∀ b ∈ X.fs, X.H₀ b = none

structure Inv (X : Cx) (pins : List (Addr × Obj)) (σ : List (Option V)) (H : Hp) (s : Shared) : Prop where
  ok : X.Ok
  os : s.os = X.s₀.os
  bare : AllBare s.gens
  base : Un X.fs X.ex X.H₀ H X.s₀.heap s.heap
  loc : ∃ m, s.heap.Ns X.env.locals m ∧ ∀ (i : Nat) (x : Str) (v : V), X.N[i]? = some x → σ[i]? = some (some v) → Vis X.env.scope x → ∃ u, RelV v u ∧ Look X.env s.heap m x u
  cell : ∀ x c, X.env.cells.lookup x = some c → ∃ v, s.heap.IsCell c v
  free : H X.env.locals = none
  freeC : ∀ x c, X.env.cells.lookup x = some c → H c = none
  pin : ∀ p ∈ X.pn ++ pins, s.heap.get? p.1 = some p.2 ∧ H p.1 = none ∧ p.1 ≠ X.env.locals ∧ p.1 ∉ X.fs ∧ ∀ v, p.2.data ≠ .cell v
  hok : HOk X.prog X.w H s.heap
  len : σ.length = X.N.length

section
variable {X : Cx} {pins : List (Addr × Obj)} {σ : List (Option V)} {H H' : Hp} {s : Shared} {h' : Heap}

theorem Cx.Ok.nofr (ok : X.Ok) {b : Addr} {o : Obj} (e : X.base.get? b = some o) : b ∉ X.fs := fun hb => by
  have := (ok.funs.mem hb).1
  rw [e] at this; cases this
theorem Inv.bs (I : Inv X pins σ H s) : ∀ b o, X.base.get? b = some o → s.heap.get? b = some o ∧ H b = none := fun b o e =>
  ⟨I.base.keep b o (I.ok.bs b o e).1 (I.ok.bs b o e).2 (I.ok.nofr e) (I.ok.noex b o e), I.base.free b o (I.ok.bs b o e).1 (I.ok.bs b o e).2 (I.ok.noex b o e)⟩
theorem Inv.bk (I : Inv X pins σ H s) : ∀ b o, X.base.get? b = some o → s.heap.get? b = some o := fun b o e => (I.bs b o e).1
theorem Inv.mod (I : Inv X pins σ H s) : Mod X.K X.mg X.base := I.ok.mod
theorem Inv.kIn (I : Inv X pins σ H s) : X.K.In s.heap := I.ok.mod.kin.keeps I.bk
theorem Inv.lt (I : Inv X pins σ H s) : X.env.locals < s.heap.objs.size := let ⟨_, hn, _⟩ := I.loc; hn.lt
theorem Inv.sz (I : Inv X pins σ H s) : X.s₀.heap.objs.size ≤ s.heap.objs.size := Nat.le_trans I.ok.above (Nat.le_of_lt I.lt)
theorem Inv.nofs (I : Inv X pins σ H s) {a : Addr} (h : s.heap.objs.size ≤ a) : a ∉ X.fs := fun hb => by
  obtain ⟨_, o, ho, _⟩ := I.ok.funs.mem hb
  exact absurd (Nat.lt_of_lt_of_le (Heap.lt_size ho) (Nat.le_trans I.sz h)) (Nat.lt_irrefl _)
theorem Inv.cne (I : Inv X pins σ H s) : ∀ x c, X.env.cells.lookup x = some c → c ≠ X.env.locals := fun x c e z => by
  obtain ⟨v, o, ho, hd⟩ := I.cell x c e
  obtain ⟨m, ⟨o', es, ep, ho', hd', _⟩, _⟩ := I.loc
  rw [z, ho'] at ho; cases ho; rw [hd'] at hd; cases hd
theorem Inv.funs (I : Inv X pins σ H s) : s.heap.FunFrames X.base X.outer := by
  have all : ∀ (l : List Env), (∀ b ∈ frs l, b ∈ X.fs) → X.s₀.heap.FunFrames X.base l → s.heap.FunFrames X.base l := by
    intro l
    induction l with
    | nil => intro _ _; trivial
    | cons env r ih =>
      intro hs hl
      obtain ⟨hk, ⟨L, o, hf, hn, ho, hd⟩, hr⟩ := hl
      have hL : L ∈ X.fs := hs L (by unfold frs; rw [List.filterMap_cons, hf]; exact List.mem_cons_self)
      obtain ⟨sl, e⟩ := I.base.slot L o ho (I.ok.frf L hL) hL fun z => I.ok.exfs L z hL
      exact ⟨hk, ⟨L, _, hf, hn, e, hd⟩, ih (fun b hb => hs b (by unfold frs; rw [List.filterMap_cons, hf]; exact List.mem_cons_of_mem _ hb)) hr⟩
  exact all X.outer (fun _ hb => hb) I.ok.funs

/-- the frames that run, for a call -/
theorem Inv.stack (I : Inv X pins σ H s) : s.heap.FunFrames X.base X.stack := by
  rcases I.ok.stk with e | ⟨e, hf⟩
  · rw [e]; exact I.funs
  · rw [e]
    obtain ⟨m, hn, _⟩ := I.loc
    refine .cons (by rw [I.ok.kind]; decide) hf hn ?_ I.funs
    exact Heap.get?_none_of_le (Nat.le_trans I.ok.bsz I.ok.above)
theorem Inv.stkSub (I : Inv X pins σ H s) : ∀ b ∈ frs X.stack, b ∈ X.env.locals :: X.fs := fun b hb => by
  rcases I.ok.stk with e | ⟨e, hf⟩
  · rw [e] at hb; exact List.mem_cons_of_mem _ hb
  · rw [e] at hb
    unfold frs at hb
    rw [List.filterMap_cons, hf] at hb
    exact hb
theorem Inv.stkFree (I : Inv X pins σ H s) : ∀ b ∈ frs X.stack, H b = none := fun b hb => by
  rcases List.mem_cons.mp (I.stkSub b hb) with e | hb
  · rw [e]; exact I.free
  · obtain ⟨_, o, ho, _⟩ := I.ok.funs.mem hb
    exact I.base.free b o ho (I.ok.frf b hb) fun z => I.ok.exfs b z hb

/-- THE STEP: the untracked objects but the frame and the records at ch are kept (the callers' frames up to slots), the frame's map is kept, the new abstract heap is held -/
theorem Inv.step {g' : Array GenState} {t' : Nat} {d' : Drawn} {ch : List Addr} (I : Inv X pins σ H s)
    (hch : ∀ b ∈ ch, (b ∈ X.ex ∨ X.s₀.heap.objs.size ≤ b) ∧ b ≠ X.env.locals ∧ (∀ x c, X.env.cells.lookup x = some c → c ≠ b) ∧ ∀ p ∈ X.pn ++ pins, p.1 ≠ b)
    (keep : ∀ b o, b ≠ X.env.locals → b ∉ X.fs → b ∉ ch → s.heap.get? b = some o → H b = none → h'.get? b = some o)
    (slot : ∀ b o, b ≠ X.env.locals → b ∈ X.fs → b ∉ ch → s.heap.get? b = some o → H b = none → ∃ sl, h'.get? b = some { o with slots := sl }) (free : ∀ b o, b ∉ ch → s.heap.get? b = some o → H b = none → H' b = none)
    (there : ∀ b o, b ∉ ch → s.heap.get? b = some o → ∃ o', h'.get? b = some o')
    (tups : ∀ b xs, H b = some (.tup xs) → H' b = some (.tup xs)) (frzs : ∀ b o u, H b = some (.frz o u) → H' b = some (.frz o u)) (tbls : ∀ b ps, H b = some (.tbl ps) → ∃ more, H' b = some (.tbl (ps ++ more)))
    (ns : ∀ m, s.heap.Ns X.env.locals m → h'.Ns X.env.locals m) (hok : HOk X.prog X.w H' h') (hg : AllBare g') :
    Inv X pins σ H' { s with heap := h', gens := g', drawn := d', toks := t' } := by
  have neL : ∀ b o, X.s₀.heap.get? b = some o → b ≠ X.env.locals := fun b o e => Nat.ne_of_lt (Nat.lt_of_lt_of_le (Heap.lt_size e) I.ok.above)
  have neC : ∀ b o, X.s₀.heap.get? b = some o → b ∉ X.ex → b ∉ ch := fun b o e hx hb => by
    rcases (hch b hb).1 with z | z
    · exact hx z
    · exact absurd (Nat.lt_of_lt_of_le (Heap.lt_size e) z) (Nat.lt_irrefl _)
  have cellK : ∀ x c, X.env.cells.lookup x = some c → ∀ v, s.heap.IsCell c v → h'.IsCell c v := fun x c e v ⟨o, ho, hd⟩ => by
    have nch : c ∉ ch := fun z => (hch c z).2.2.1 x c e rfl
    by_cases hc : c ∈ X.fs
    · obtain ⟨sl, q⟩ := slot c o (I.cne x c e) hc nch ho (I.freeC x c e)
      exact ⟨_, q, hd⟩
    · exact ⟨o, keep c o (I.cne x c e) hc nch ho (I.freeC x c e), hd⟩
  refine ⟨I.ok, I.os, hg, ⟨fun b o e n hb hx => ?_, fun b o e n hb hx => ?_, fun b o e n hx => ?_, fun b o e hx => ?_, fun b xs e => tups b xs (I.base.tups b xs e), fun b o xs e => frzs b o xs (I.base.frzs b o xs e), fun b ps e => ?_⟩, ?_, fun x c e => ?_, ?_, fun x c e => ?_, fun p hp => ?_, hok, I.len⟩
  · exact keep b o (neL b o e) hb (neC b o e hx) (I.base.keep b o e n hb hx) (I.base.free b o e n hx)
  · obtain ⟨sl, e1⟩ := I.base.slot b o e n hb hx
    obtain ⟨sl', e2⟩ := slot b _ (neL b o e) hb (neC b o e hx) e1 (I.base.free b o e n hx)
    exact ⟨sl', e2⟩
  · obtain ⟨o', e1⟩ := I.base.there b o e hx
    exact free b o' (neC b o e hx) e1 (I.base.free b o e n hx)
  · obtain ⟨o', e1⟩ := I.base.there b o e hx
    exact there b o' (neC b o e hx) e1
  · obtain ⟨m1, e1⟩ := I.base.tbls b ps e
    obtain ⟨m2, e2⟩ := tbls b _ e1
    exact ⟨m1 ++ m2, by rw [e2, Array.append_assoc]⟩
  · obtain ⟨m, hn, hl⟩ := I.loc
    refine ⟨m, ns m hn, fun i x v e1 e2 e3 => ?_⟩
    obtain ⟨u, r, l⟩ := hl i x v e1 e2 e3
    refine ⟨u, r, ?_⟩
    rcases l with l | ⟨k, c, e, z⟩
    · exact .inl l
    · exact .inr ⟨k, c, e, cellK x c e _ z⟩
  · obtain ⟨v, z⟩ := I.cell x c e
    exact ⟨v, cellK x c e v z⟩
  · obtain ⟨m, ⟨o, _, _, ho, _⟩, _⟩ := I.loc
    exact free _ o (fun z => (hch _ z).2.1 rfl) ho I.free
  · obtain ⟨v, o, ho, hd⟩ := I.cell x c e
    exact free c o (fun z => (hch c z).2.2.1 x c e rfl) ho (I.freeC x c e)
  · obtain ⟨e, n, ne, nf, d⟩ := I.pin p hp
    have nch : p.1 ∉ ch := fun z => (hch p.1 z).2.2.2 p hp rfl
    exact ⟨keep p.1 p.2 ne nf nch e n, free p.1 p.2 nch e n, ne, nf, d⟩
/-- .. where the frame's own object is kept too -/
theorem Inv.un {t' : Nat} (I : Inv X pins σ H s) (u : Un X.fs [] H H' s.heap h') (hok : HOk X.prog X.w H' h') : Inv X pins σ H' { s with heap := h', toks := t' } := by
  obtain ⟨m, ⟨o, es, ep, ho, r⟩, _⟩ := id I.loc
  obtain ⟨sl, hL⟩ := u.any ho I.free (by simp)
  exact I.step (g' := s.gens) (d' := s.drawn) (ch := []) (fun _ z => nomatch z) (fun b o _ hb _ e n => u.keep b o e n hb (by simp)) (fun b o _ hb _ e n => u.slot b o e n hb (by simp)) (fun b o _ e n => u.free b o e n (by simp)) (fun b o _ e => u.there b o e (by simp)) u.tups u.frzs u.tbls (fun m' hm => by
    obtain ⟨o', es', ep', ho', r'⟩ := hm
    rw [ho] at ho'; cases ho'
    exact ⟨_, es', ep', hL, r'⟩) hok I.bare
/-- behind a call (or a comprehension's block): the slots of this frame may have changed too, the records at ch may have turned -/
theorem Inv.call {g' : Array GenState} {t' : Nat} {d' : Drawn} {ch : List Addr} (I : Inv X pins σ H s) (u : Un (frs X.stack) ch H H' s.heap h') (hok : HOk X.prog X.w H' h') (hg : AllBare g')
    (hch : ∀ b ∈ ch, (b ∈ X.ex ∨ X.s₀.heap.objs.size ≤ b) ∧ b ≠ X.env.locals ∧ (∀ x c, X.env.cells.lookup x = some c → c ≠ b) ∧ ∀ p ∈ X.pn ++ pins, p.1 ≠ b) :
    Inv X pins σ H' { s with heap := h', gens := g', drawn := d', toks := t' } := by
  obtain ⟨m, ⟨o, es, ep, ho, r⟩, _⟩ := id I.loc
  obtain ⟨sl, hL⟩ := u.any ho I.free fun z => (hch _ z).2.1 rfl
  exact I.step (ch := ch) hch (fun b o hL hb hc e n => u.keep b o e n (fun z => (List.mem_cons.mp (I.stkSub b z)).elim hL hb) hc) (fun b o _ _ hc e n => u.any e n hc) (fun b o hc e n => u.free b o e n hc) (fun b o hc e => u.there b o e hc) u.tups u.frzs u.tbls (fun m' hm => by
    obtain ⟨o', es', ep', ho', r'⟩ := hm
    rw [ho] at ho'; cases ho'
    exact ⟨_, es', ep', hL, r'⟩) hok hg
/-- an untracked record of ours (an iterator) has turned -/
theorem Inv.turned {t' : Nat} {it : Addr} (I : Inv X pins σ H s) (k : ∀ b o, b ≠ it → s.heap.get? b = some o → h'.get? b = some o) (hn : H it = none) (hL : it ≠ X.env.locals)
    (h1 : it ∈ X.ex ∨ X.s₀.heap.objs.size ≤ it) (h2 : ∀ x c, X.env.cells.lookup x = some c → c ≠ it) (h3 : ∀ p ∈ X.pn ++ pins, p.1 ≠ it) : Inv X pins σ H { s with heap := h', toks := t' } := by
  have nit : ∀ b u, H b = some u → b ≠ it := fun b u e z => by rw [z, hn] at e; cases e
  refine I.step (g' := s.gens) (d' := s.drawn) (ch := [it]) (fun b hb => ?_) (fun b o _ _ hc e _ => k b o (fun z => hc (by simp [z])) e) (fun b o _ _ hc e _ => ⟨o.slots, k b o (fun z => hc (by simp [z])) e⟩) (fun _ _ _ _ n => n)
    (fun b o hc e => ⟨o, k b o (fun z => hc (by simp [z])) e⟩) (fun _ _ e => e) (fun _ _ _ e => e) (fun b ps e => ⟨#[], by rw [e]; simp⟩) (fun m hm => ?_) (fun b u e => ?_) I.bare
  · have e : b = it := by simpa using hb
    subst e
    exact ⟨h1, hL, h2, h3⟩
  · obtain ⟨o, es, ep, ho, r⟩ := hm
    exact ⟨o, es, ep, k _ o (Ne.symm hL) ho, r⟩
  · refine (I.hok b u e).stay (fun c v hc q => k c v ?_ q) (fun _ q => q) fun _ _ q => q
    rcases hc with z | z
    · rw [z]; exact nit b u e
    · exact nit c _ z
theorem Inv.tok (I : Inv X pins σ H s) (t : Nat) : Inv X pins σ H { s with toks := t } := I.un (h' := s.heap) (t' := t) Un.refl I.hok
/-- all objects kept -/
theorem Inv.kept {t' : Nat} (I : Inv X pins σ H s) (k : ∀ b u, s.heap.get? b = some u → h'.get? b = some u) : Inv X pins σ H { s with heap := h', toks := t' } := I.un (Un.kept k) (I.hok.kept k)
/-- a new object laid and tracked -/
theorem Inv.laid {a : Addr} {o : HO} {t' : Nat} (I : Inv X pins σ H s) (k : ∀ b u, s.heap.get? b = some u → h'.get? b = some u) (hp : s.heap.objs.size ≤ a) (new : ObjOk X.prog X.w (upd H a o) h' a o) :
    Inv X pins σ (upd H a o) { s with heap := h', toks := t' } := I.un (Un.laid k hp (I.hok.fresh hp)) (I.hok.laid k hp new)
/-- an object written -/
theorem Inv.write {x e : Addr} {o : HO} {t' : Nat} (I : Inv X pins σ H s) (mu : Mut (H x)) (he : e = x ∨ H e = some (.own x)) (k : ∀ b u, b ≠ e → s.heap.get? b = some u → h'.get? b = some u) (heo : ∃ u, h'.get? e = some u)
    (new : ObjOk X.prog X.w (upd H x o) h' x o) : Inv X pins σ (upd H x o) { s with heap := h', toks := t' } := I.un (Un.write mu he k heo) (I.hok.write mu he k heo new)
theorem Inv.pins_of {pins' : List (Addr × Obj)} (I : Inv X pins σ H s) (h : ∀ p ∈ pins', s.heap.get? p.1 = some p.2 ∧ H p.1 = none ∧ p.1 ≠ X.env.locals ∧ p.1 ∉ X.fs ∧ ∀ v, p.2.data ≠ .cell v) : Inv X pins' σ H s :=
  ⟨I.ok, I.os, I.bare, I.base, I.loc, I.cell, I.free, I.freeC, fun p hp => (List.mem_append.mp hp).elim (fun z => I.pin p (List.mem_append_left _ z)) (h p), I.hok, I.len⟩

theorem nodup_ix {N : List Str} (hN : N.Nodup) {i j : Nat} {x : Str} (a : N[i]? = some x) (b : N[j]? = some x) : i = j := by
  obtain ⟨h1, e1⟩ := List.getElem?_eq_some_iff.mp a
  obtain ⟨h2, e2⟩ := List.getElem?_eq_some_iff.mp b
  exact (List.getElem_inj hN).mp (e1.trans e2.symm)

/-- a name is stored; what changed -/
theorem store_ok2 {M : Model} {A : Around} {E : Value → Shared → Prop} {i : Nat} {x : Str} {v : V} {u : Value} {Q : Unit → Shared → Prop} (I : Inv X pins σ H s) (hN : X.N.Nodup) (hi : X.N[i]? = some x) (hx : Loc X.env.scope x) (r : RelV v u)
    (h : ∀ s', Inv X pins (σ.set i (some v)) H s' → (∃ a, Heap.SameBut a s.heap s'.heap ∧ (a = X.env.locals ∨ X.env.cells.lookup x = some a)) → Q () s') (hf : X.fn x = true ∨ X.env.scope.names.lookup x = some .local := by first | exact .inl rfl | exact .inr rfl | assumption) : wpAny M A (storeName X.env x u) Q E s := by
  obtain ⟨m, hn, hl⟩ := id I.loc
  have hcls : (X.env.scope.kind == .class || (X.env.scope.kind == .module && X.env.locals != X.env.globals)) = false := by rw [I.ok.kind]; rfl
  have hiσ : i < σ.length := by rw [I.len]; exact (List.getElem?_eq_some_iff.mp hi).1
  have cne := I.cne
  have tracked : ∀ {a : Addr} {h' : Heap}, (∃ o, s.heap.get? a = some o ∧ H a = none) → Heap.SameBut a s.heap h' → HOk X.prog X.w H h' := fun {a h'} ha hs b ob e => by
    obtain ⟨_, _, hfree⟩ := ha
    refine (I.hok b ob e).stay (fun c w' hc q => (hs.2 c ?_).trans q) (fun _ q => q) fun _ _ q => q
    rintro rfl
    rcases hc with rfl | hc
    · rw [hfree] at e; cases e
    · rw [hfree] at hc; cases hc
  rcases hx with hk | hk
  · refine wpAny_storeName_local hk hn (fun h' hn' hs => ?_) hcls
    obtain ⟨oL, _, _, hoL, _⟩ := id hn
    refine h _ ⟨I.ok, I.os, I.bare, ⟨fun b o e n hb hx => ?_, fun b o e n hb hx => ?_, I.base.free, fun b o e hx => ?_, I.base.tups, I.base.frzs, I.base.tbls⟩, ⟨_, hn', fun j y v' e1 e2 e3 => ?_⟩, fun y c e => ?_, I.free, I.freeC, fun p hp => ?_, tracked ⟨oL, hoL, I.free⟩ hs, by simpa using I.len⟩ ⟨_, hs, .inl rfl⟩
    · exact (hs.2 b (Nat.ne_of_lt (Nat.lt_of_lt_of_le (Heap.lt_size e) I.ok.above))).trans (I.base.keep b o e n hb hx)
    · obtain ⟨sl, e1⟩ := I.base.slot b o e n hb hx
      exact ⟨sl, (hs.2 b (Nat.ne_of_lt (Nat.lt_of_lt_of_le (Heap.lt_size e) I.ok.above))).trans e1⟩
    · obtain ⟨o', e1⟩ := I.base.there b o e hx
      exact ⟨o', (hs.2 b (Nat.ne_of_lt (Nat.lt_of_lt_of_le (Heap.lt_size e) I.ok.above))).trans e1⟩
    · by_cases hj : j = i
      · subst hj
        rw [hi] at e1; cases e1
        rw [List.getElem?_set_self hiσ] at e2
        cases e2
        exact ⟨u, r, .inl ⟨hk, by simp⟩⟩
      · rw [List.getElem?_set_ne (Ne.symm hj)] at e2
        obtain ⟨u', r', q⟩ := hl j y v' e1 e2 e3
        refine ⟨u', r', ?_⟩
        rcases q with ⟨k, e⟩ | ⟨k, c, e, z⟩
        · refine .inl ⟨k, ?_⟩
          have : y ≠ x := fun e => hj (nodup_ix hN e1 (e ▸ hi))
          simp [this, e]
        · exact .inr ⟨k, c, e, z.sameBut hs (cne y c e)⟩
    · obtain ⟨w', z⟩ := I.cell y c e
      exact ⟨w', z.sameBut hs (cne y c e)⟩
    · obtain ⟨e, n, ne, nf, d⟩ := I.pin p hp
      exact ⟨(hs.2 p.1 ne).trans e, n, ne, nf, d⟩
  · have hfn : X.fn x = true := by
      rcases hf with z | z
      · exact z
      · rw [z] at hk; cases hk
    obtain ⟨c, hc⟩ := I.ok.has x (.inl hk)
    obtain ⟨w', z⟩ := I.cell x c hc
    refine wpAny_storeName_cell I.ok.kind hk hc z (fun h' hc' hs => ?_)
    obtain ⟨oc, hoc, hocd⟩ := id z
    refine h { s with heap := h' } ⟨I.ok, I.os, I.bare, ⟨fun b o e n hb hx => ?_, fun b o e n hb hx => ?_, I.base.free, fun b o e hx => ?_, I.base.tups, I.base.frzs, I.base.tbls⟩, ⟨m, hn.sameBut hs (Ne.symm (cne x c hc)), fun j y v' e1 e2 e3 => ?_⟩, fun y c' e => ?_, I.free, I.freeC, fun p hp => ?_, tracked ⟨oc, hoc, I.freeC x c hc⟩ hs, by simpa using I.len⟩ ⟨c, hs, .inr hc⟩
    · exact (hs.2 b (Nat.ne_of_lt (Nat.lt_of_lt_of_le (Heap.lt_size e) (I.ok.cab x c hfn hc)))).trans (I.base.keep b o e n hb hx)
    · obtain ⟨sl, e1⟩ := I.base.slot b o e n hb hx
      exact ⟨sl, (hs.2 b (Nat.ne_of_lt (Nat.lt_of_lt_of_le (Heap.lt_size e) (I.ok.cab x c hfn hc)))).trans e1⟩
    · obtain ⟨o', e1⟩ := I.base.there b o e hx
      exact ⟨o', (hs.2 b (Nat.ne_of_lt (Nat.lt_of_lt_of_le (Heap.lt_size e) (I.ok.cab x c hfn hc)))).trans e1⟩
    · by_cases hj : j = i
      · subst hj
        rw [hi] at e1; cases e1
        rw [List.getElem?_set_self hiσ] at e2
        cases e2
        exact ⟨u, r, .inr ⟨.inl hk, c, hc, hc'⟩⟩
      · rw [List.getElem?_set_ne (Ne.symm hj)] at e2
        obtain ⟨u', r', q⟩ := hl j y v' e1 e2 e3
        refine ⟨u', r', ?_⟩
        rcases q with q | ⟨k, c', e, z'⟩
        · exact .inl q
        · refine .inr ⟨k, c', e, z'.sameBut hs ?_⟩
          rintro rfl
          exact hj (nodup_ix hN e1 (I.ok.inj _ _ _ e hc ▸ hi))
    · by_cases hcc : c' = c
      · subst hcc; exact ⟨_, hc'⟩
      · obtain ⟨w2, z2⟩ := I.cell y c' e
        exact ⟨w2, z2.sameBut hs hcc⟩
    · obtain ⟨e, n, ne, nf, d⟩ := I.pin p hp
      refine ⟨(hs.2 p.1 ?_).trans e, n, ne, nf, d⟩
      intro q
      rw [q, hoc] at e
      have q' : oc = p.2 := Option.some.inj e
      exact d w' (by rw [← q']; exact hocd)
theorem store_ok {M : Model} {A : Around} {E : Value → Shared → Prop} {i : Nat} {x : Str} {v : V} {u : Value} {Q : Unit → Shared → Prop} (I : Inv X pins σ H s) (hN : X.N.Nodup) (hi : X.N[i]? = some x) (hx : Loc X.env.scope x) (r : RelV v u)
    (h : ∀ s', Inv X pins (σ.set i (some v)) H s' → Q () s') (hf : X.fn x = true ∨ X.env.scope.names.lookup x = some .local := by first | exact .inl rfl | exact .inr rfl | assumption) : wpAny M A (storeName X.env x u) Q E s :=
  store_ok2 I hN hi hx r (fun s' I' _ => h s' I') hf
/-- behind a call or a block, the state as it is -/
theorem Inv.call' {s' : Shared} {ch : List Addr} (I : Inv X pins σ H s) (ho : s'.os = s.os) (u : Un (frs X.stack) ch H H' s.heap s'.heap) (hok : HOk X.prog X.w H' s'.heap) (hg : AllBare s'.gens)
    (hch : ∀ b ∈ ch, (b ∈ X.ex ∨ X.s₀.heap.objs.size ≤ b) ∧ b ≠ X.env.locals ∧ (∀ x c, X.env.cells.lookup x = some c → c ≠ b) ∧ ∀ p ∈ X.pn ++ pins, p.1 ≠ b) : Inv X pins σ H' s' := by
  obtain ⟨h', g', d', t', o'⟩ := s'
  have e : o' = s.os := ho
  subst e
  exact I.call (g' := g') (t' := t') (d' := d') u hok hg hch
end

/-! ### the judgements -/
/-- an exception: its class, its own dict's address (where it has one), the abstract heap behind it -/
abbrev XK := Value → Option Addr → Hp → Prop
abbrev St := List (Option V)
abbrev VK := V → Hp → Prop
/-- an expression's reading; a test's; an argument list's -/
abbrev TE := St → Hp → VK → Prop
abbrev TT := St → Hp → (Bool → Hp → Prop) → Prop
abbrev TA := St → Hp → (List V → Hp → Prop) → Prop
/-- what is wanted behind a statement -/
structure Ends where
  nx : St → Hp → Prop
  rt : VK
  bk : St → Hp → Prop := fun _ _ => False
  ct : St → Hp → Prop := fun _ _ => False
abbrev TS := Ends → St → Hp → Prop

def EP (X : Cx) (pins : List (Addr × Obj)) (σ : St) (Q : VK) (u : Value) (s' : Shared) : Prop := ∃ v H', Inv X pins σ H' s' ∧ RelV v u ∧ Q v H'
def TP (X : Cx) (pins : List (Addr × Obj)) (σ : St) (Q : Bool → Hp → Prop) (b : Bool) (s' : Shared) : Prop := ∃ H', Inv X pins σ H' s' ∧ Q b H'
def AP (X : Cx) (pins : List (Addr × Obj)) (σ : St) (Q : List V → Hp → Prop) (us : List Value) (s' : Shared) : Prop := ∃ vs H', Inv X pins σ H' s' ∧ Vals vs us ∧ Q vs H'
def SP (X : Cx) (pins : List (Addr × Obj)) (D : Ends) (f : Flow) (s' : Shared) : Prop :=
  match f with
  | .next => ∃ σ' H', Inv X pins σ' H' s' ∧ D.nx σ' H'
  | .brk => ∃ σ' H', Inv X pins σ' H' s' ∧ D.bk σ' H'
  | .cont => ∃ σ' H', Inv X pins σ' H' s' ∧ D.ct σ' H'
  | .ret u => ∃ v σ' H', Inv X pins σ' H' s' ∧ RelV v u ∧ D.rt v H'

def PE (X : Cx) (e : Expr) (t : TE) : Prop :=
  ∀ (pins : List (Addr × Obj)) (s : Shared) (σ : St) (H : Hp) (Q : VK), Inv X pins σ H s → t σ H Q → wpAny (model X.prog X.w) X.A (eval e X.env) (EP X pins σ Q) X.xe s
def PT (X : Cx) (e : Expr) (t : TT) : Prop :=
  ∀ (pins : List (Addr × Obj)) (s : Shared) (σ : St) (H : Hp) (Q : Bool → Hp → Prop), Inv X pins σ H s → t σ H Q → wpAny (model X.prog X.w) X.A (isTrue e X.env (eval e X.env)) (TP X pins σ Q) X.xe s
/-- a test whatever its 'whole' is (and, or) -/
def PW (X : Cx) (e : Expr) (t : TT) : Prop :=
  ∀ (whole : Sem Value) (pins : List (Addr × Obj)) (s : Shared) (σ : St) (H : Hp) (Q : Bool → Hp → Prop), Inv X pins σ H s → t σ H Q → wpAny (model X.prog X.w) X.A (isTrue e X.env whole) (TP X pins σ Q) X.xe s
theorem PW.pt {X : Cx} {e : Expr} {t : TT} (h : PW X e t) : PT X e t := h _
/-- an argument list (no star), from the left -/
def PA (X : Cx) (es : List Expr) (t : TA) : Prop :=
  ∀ (pos : Pos) (pins : List (Addr × Obj)) (s : Shared) (σ : St) (H : Hp) (Q : List V → Hp → Prop), Inv X pins σ H s → t σ H Q → wpAny (model X.prog X.w) X.A (spliced (backTo pos (starEach es X.env))) (AP X pins σ Q) X.xe s
def PS (X : Cx) (st : Stmt) (t : TS) : Prop :=
  ∀ (pins : List (Addr × Obj)) (s : Shared) (σ : St) (H : Hp) (D : Ends), Inv X pins σ H s → t D σ H → wpAny (model X.prog X.w) X.A (exec st X.env) (SP X pins D) X.xe s
def PSs (X : Cx) (st : List Stmt) (t : TS) : Prop :=
  ∀ (pins : List (Addr × Obj)) (s : Shared) (σ : St) (H : Hp) (D : Ends), Inv X pins σ H s → t D σ H → wpAny (model X.prog X.w) X.A (execs st X.env) (SP X pins D) X.xe s
/-- weaken the end -/
theorem thn {α : Type} {t : Sem α} {Q Q' : α → Shared → Prop} {M : Model} {A : Around} {E : Value → Shared → Prop} {s : Shared} (h : wpAny M A t Q E s) (hQ : ∀ a s, Q a s → Q' a s) : wpAny M A t Q' E s := wpAny_mono h hQ fun _ _ x => x
end L2

namespace L2
open PySem PySem.Spec PyProof.Rows
section
variable {X : Cx}

/-! ### names and constants -/
def tVar (i : Nat) : TE := fun σ H Q => ∃ v, σ[i]? = some (some v) ∧ Q v H
def tC (v : V) : TE := fun _ H Q => Q v H
theorem pe_var {i : Nat} {x : Str} {pos : Pos} (hN : X.N[i]? = some x) (hv : Vis X.env.scope x) (hd : (x == ("__debug__" : Str)) = false := by decide) (hcd : (x == ("__classdict__" : Str)) = false := by decide) : PE X (.Name x pos) (tVar i) := by
  intro pins s σ H Q I h
  obtain ⟨v, e, h⟩ := h
  obtain ⟨m, hn, hl⟩ := I.loc
  obtain ⟨u, r, l⟩ := hl i x v hN e hv
  have fin : EP X pins σ Q u s := ⟨v, H, I, r, h⟩
  rcases l with ⟨hk, hm⟩ | ⟨hk, c, hc, hcell⟩
  · exact wpAny_Name (wpAny_loadName_local I.ok.kind hk hn hm fin) hd
  · rcases hk with hk | hk
    · exact wpAny_Name (wpAny_loadName_cell I.ok.kind hk hc hcell fin) hd
    · exact wpAny_Name (wpAny_loadName_free I.ok.kind hk hc hcell fin hcd) hd
theorem pe_int {i j pos} : PE X (.Constant (.int i) j pos) (tC (.int i)) := fun _ _ _ H _ I h => wpAny_Constant_int ⟨.int i, H, I.tok _, ⟨_, rfl⟩, h⟩
theorem pe_bl {b j pos} : PE X (.Constant (.bool b) j pos) (tC (.bl b)) := fun _ _ _ H _ I h => Constant_bool ⟨.bl b, H, I, rfl, h⟩
theorem pe_non {j pos} : PE X (.Constant .none j pos) (tC .non) := fun _ _ _ H _ I h => Constant_none ⟨.non, H, I, rfl, h⟩
theorem pe_str {x j pos} : PE X (.Constant (.str x) j pos) (tC (.str x)) := fun _ _ _ H _ I h => Calls.Constant_str ⟨.str x, H, I.tok _, ⟨_, rfl⟩, h⟩

/-- a global name of the def -/
def Gl (X : Cx) (x : Str) : Prop := X.env.kindOf x = some .globalImplicit
theorem ld_glob {E : Value → Shared → Prop} {pins : List (Addr × Obj)} {s : Shared} {σ : St} {H : Hp} {x : Str} {u : Value} {pos : Pos} {Q : Value → Shared → Prop} (I : Inv X pins σ H s) (hg : Gl X x) (hm : X.mg x = some u) (h : Q u s)
    (hd : (x == ("__debug__" : Str)) = false := by decide) : wpAny (model X.prog X.w) X.A (eval (.Name x pos) X.env) Q E s :=
  Calls.Name_function_global I.ok.kind hg (Calls.loadGlobal_global (by rw [I.ok.glob]; exact I.mod.glob.keeps I.bk) hm h) hd
theorem ld_blt {E : Value → Shared → Prop} {pins : List (Addr × Obj)} {s : Shared} {σ : St} {H : Hp} {x : Str} {u : Value} {pos : Pos} {Q : Value → Shared → Prop} (I : Inv X pins σ H s) (hg : Gl X x) (hm : X.mg x = none) (hv : bootBuiltins x = some u) (h : Q u s)
    (hn : x ≠ "__name__" := by decide) (hd : (x == ("__debug__" : Str)) = false := by decide) : wpAny (model X.prog X.w) X.A (eval (.Name x pos) X.env) Q E s := by
  obtain ⟨mb, h1, h2⟩ := I.mod.blt
  exact Calls.Name_function_global I.ok.kind hg (Calls.loadGlobal_builtin (by rw [I.ok.glob]; exact I.mod.glob.keeps I.bk) hm (by rw [I.ok.blt]; exact h1.keeps I.bk) ((h2 x hn).trans hv) h) hd
theorem pe_bltn {x : Str} {v : V} {u : Value} {pos : Pos} (hg : Gl X x) (hm : X.mg x = none) (hv : bootBuiltins x = some u) (r : RelV v u) (hn : x ≠ "__name__" := by decide) (hd : (x == ("__debug__" : Str)) = false := by decide) : PE X (.Name x pos) (tC v) :=
  fun _ _ _ H _ I h => ld_blt I hg hm hv ⟨v, H, I, r, h⟩ hn hd

/-! ### arithmetic -/
variable {a b : Expr} {ta tb : TE} {pos : Pos}
/-! ### comparisons -/
def PC (X : Cx) (op : CmpOp) (a b : Expr) (t : TE) : Prop :=
  ∀ (pins : List (Addr × Obj)) (s : Shared) (σ : St) (H : Hp) (Q : VK), Inv X pins σ H s → t σ H Q →
    wpAny (model X.prog X.w) X.A (eval a X.env) (fun v s₁ => wpAny (model X.prog X.w) X.A (eval b X.env) (fun u s₂ => wpAny (model X.prog X.w) X.A (compareOp op v u) (EP X pins σ Q) X.xe s₂) X.xe s₁) X.xe s
theorem nobehind (b : Expr) {op : CmpOp} (h : op ≠ .In) (h2 : op ≠ .NotIn) : behindInMarks op b = false := by
  have e1 : (op == CmpOp.In) = false := by cases op <;> first | rfl | exact absurd rfl h
  have e2 : (op == CmpOp.NotIn) = false := by cases op <;> first | rfl | exact absurd rfl h2
  cases b <;> simp [behindInMarks, e1, e2]
/-- is None -/
def tIsN (ta : TE) : TE := fun σ H Q => ta σ H fun x H1 => Q (.bl (decide (x = .non))) H1
def tNotN (ta : TE) : TE := fun σ H Q => ta σ H fun x H1 => Q (.bl (!decide (x = .non))) H1
theorem RelV.none_iff {x : V} {v : Value} (r : RelV x v) : (v == Value.none) = decide (x = .non) := by
  cases x with
  | non => cases r; rfl
  | bl _ => cases r; rfl
  | int _ => obtain ⟨t, rfl⟩ := r; rfl
  | str _ => obtain ⟨t, rfl⟩ := r; rfl
  | byt _ => obtain ⟨t, rfl⟩ := r; rfl
  | flt _ => obtain ⟨t, rfl⟩ := r; rfl
  | ref _ => cases r; rfl
  | ty _ => cases r; rfl
theorem pc_isN {j pos'} (ha : PE X a ta) : PC X .Is a (.Constant .none j pos') (tIsN ta) := by
  intro pins s σ H Q I h
  refine thn (ha pins s σ H _ I h) fun v s1 ⟨x, H1, I1, r1, q1⟩ => ?_
  exact Constant_none (is_none_gen ⟨.bl _, H1, I1, by rw [r1.none_iff]; rfl, q1⟩)
theorem pc_notN {j pos'} (ha : PE X a ta) : PC X .IsNot a (.Constant .none j pos') (tNotN ta) := by
  intro pins s σ H Q I h
  refine thn (ha pins s σ H _ I h) fun v s1 ⟨x, H1, I1, r1, q1⟩ => ?_
  exact Constant_none (isnot_none_gen ⟨.bl _, H1, I1, by rw [r1.none_iff]; rfl, q1⟩)
/-- a comparison as a value, as a test -/
def tB (t : TE) : TT := fun σ H Q => t σ H fun x H1 => ∃ c, x = .bl c ∧ Q c H1
theorem pe_cmp {op : CmpOp} {t : TE} (h : PC X op a b t) (h1 : behindInMarks op b = false := by first | exact nobehind _ (by decide) (by decide) | rfl) : PE X (.Compare a [op] [b] pos) t := fun pins s σ H Q I hw => wpAny_Compare1 (h pins s σ H Q I hw) h1
theorem pt_cmp {op : CmpOp} {t : TE} (h : PC X op a b t) (h1 : behindInMarks op b = false := by first | exact nobehind _ (by decide) (by decide) | rfl) : PT X (.Compare a [op] [b] pos) (tB t) := by
  intro pins s σ H Q I hw
  refine wpAny_isTrue_Compare1 (thn (h pins s σ H _ I hw) fun v s1 h1 => thn h1 fun u s2 h2 => thn h2 fun c s3 ⟨x, H1, I1, r1, q1⟩ => ?_) h1
  obtain ⟨d, rfl, q⟩ := q1
  cases r1
  exact wpAny_truthy_bool ⟨H1, I1, q⟩
/-- an expression whose value is a bool, as a test -/
theorem pt_val {e : Expr} {t : TE} (h : PE X e t) (he : ∀ whole, isTrue e X.env whole = (do let v ← whole; standAt e.pos; holding [v] (truthy v)) := by intro _; rfl) : PT X e (tB t) := by
  intro pins s σ H Q I hw
  refine isTrue_plain (thn (h pins s σ H _ I hw) fun v s1 ⟨x, H1, I1, r1, q1⟩ => ?_) (he _)
  obtain ⟨d, rfl, q⟩ := q1
  cases r1
  exact wpAny_truthy_bool ⟨H1, I1, q⟩

/-! ### and, or, not -/
variable {tA tB' : TT} {rest : List Expr}
def tAnd (t u : TT) : TT := fun σ H Q => t σ H fun c H1 => if c = true then u σ H1 Q else Q false H1
def tOr (t u : TT) : TT := fun σ H Q => t σ H fun c H1 => if c = true then Q true H1 else u σ H1 Q
def tNot (t : TT) : TT := fun σ H Q => t σ H fun c H1 => Q (!c) H1
theorem pw_and1 (ha : PT X a tA) : PW X (.BoolOp .And [a] pos) tA := by
  intro wh pins s σ H Q I h
  refine isTrue_and (thn (ha pins s σ H Q I h) fun c s1 e => ?_)
  cases c with
  | true => exact isTrue_and_nil e
  | false => exact e
theorem pw_or1 (ha : PT X a tA) : PW X (.BoolOp .Or [a] pos) tA := by
  intro wh pins s σ H Q I h
  refine isTrue_or (thn (ha pins s σ H Q I h) fun c s1 e => ?_)
  cases c with
  | false => exact isTrue_or_nil e
  | true => exact e
theorem pw_and (ha : PT X a tA) (hb : PW X (.BoolOp .And (b :: rest) pos) tB') : PW X (.BoolOp .And (a :: b :: rest) pos) (tAnd tA tB') := by
  intro wh pins s σ H Q I h
  refine isTrue_and (thn (ha pins s σ H _ I h) fun c s1 ⟨H1, I1, q1⟩ => ?_)
  cases c with
  | true => exact hb wh pins s1 σ H1 Q I1 q1
  | false => exact ⟨H1, I1, q1⟩
theorem pw_or (ha : PT X a tA) (hb : PW X (.BoolOp .Or (b :: rest) pos) tB') : PW X (.BoolOp .Or (a :: b :: rest) pos) (tOr tA tB') := by
  intro wh pins s σ H Q I h
  refine isTrue_or (thn (ha pins s σ H _ I h) fun c s1 ⟨H1, I1, q1⟩ => ?_)
  cases c with
  | true => exact ⟨H1, I1, q1⟩
  | false => exact hb wh pins s1 σ H1 Q I1 q1
theorem pt_not (ha : PT X a tA) : PT X (.UnaryOp .Not a pos) (tNot tA) := by
  intro pins s σ H Q I h
  exact isTrue_not (ha pins s σ H (fun c H1 => Q (!c) H1) I h)
/-- .. as values (bools) -/
def tAndV (ta tb : TE) : TE := fun σ H Q => ta σ H fun x H1 => ∃ c, x = .bl c ∧ if c = true then tb σ H1 Q else Q (.bl false) H1
def tOrV (ta tb : TE) : TE := fun σ H Q => ta σ H fun x H1 => ∃ c, x = .bl c ∧ if c = true then Q (.bl true) H1 else tb σ H1 Q
def tNotV (ta : TE) : TE := fun σ H Q => ta σ H fun x H1 => ∃ c, x = .bl c ∧ Q (.bl (!c)) H1
theorem pe_one {op} {t : TE} (h : PE X a t) : PE X (.BoolOp op [a] pos) t := fun pins s σ H Q I hw => BoolOp_one (h pins s σ H Q I hw)
theorem pe_and (ha : PE X a ta) (hb : PE X (.BoolOp .And (b :: rest) pos) tb) : PE X (.BoolOp .And (a :: b :: rest) pos) (tAndV ta tb) := by
  intro pins s σ H Q I h
  refine BoolOp_and (thn (ha pins s σ H _ I h) fun v s1 ⟨x, H1, I1, r1, q1⟩ => ?_)
  obtain ⟨c, rfl, q1⟩ := q1
  cases r1
  refine wpAny_truthy_bool ?_
  cases c with
  | true => exact hb pins s1 σ H1 Q I1 q1
  | false => exact ⟨.bl false, H1, I1, rfl, q1⟩
theorem pe_or (ha : PE X a ta) (hb : PE X (.BoolOp .Or (b :: rest) pos) tb) : PE X (.BoolOp .Or (a :: b :: rest) pos) (tOrV ta tb) := by
  intro pins s σ H Q I h
  refine BoolOp_or (thn (ha pins s σ H _ I h) fun v s1 ⟨x, H1, I1, r1, q1⟩ => ?_)
  obtain ⟨c, rfl, q1⟩ := q1
  cases r1
  refine wpAny_truthy_bool ?_
  cases c with
  | false => exact hb pins s1 σ H1 Q I1 q1
  | true => exact ⟨.bl true, H1, I1, rfl, q1⟩
theorem pe_not (ha : PE X a ta) : PE X (.UnaryOp .Not a pos) (tNotV ta) := by
  intro pins s σ H Q I h
  refine UnaryOp_ (thn (ha pins s σ H _ I h) fun v s1 ⟨x, H1, I1, r1, q1⟩ => ?_)
  obtain ⟨c, rfl, q1⟩ := q1
  cases r1
  exact not_of (wpAny_truthy_bool ⟨.bl (!c), H1, I1, rfl, q1⟩)
/-- a if t else b -/
def tIf (t : TT) (ta tb : TE) : TE := fun σ H Q => t σ H fun c H1 => if c = true then ta σ H1 Q else tb σ H1 Q
theorem pe_ifExp {c : Expr} (hc : PT X c tA) (ha : PE X a ta) (hb : PE X b tb) : PE X (.IfExp c a b pos) (tIf tA ta tb) := by
  intro pins s σ H Q I h
  refine wpAny_IfExp (thn (hc pins s σ H _ I h) fun d s1 ⟨H1, I1, q1⟩ => ?_)
  cases d with
  | true => exact ha pins s1 σ H1 Q I1 q1
  | false => exact hb pins s1 σ H1 Q I1 q1
end
end L2

namespace L2
open PySem PySem.Spec PyProof.Rows

/-! ### a list, a tuple that is read: tracked, frozen, or an object of the module -/
def SqL (K : PySem.W.Frag) (H : Hp) (a : Addr) (xs : List V) : Prop :=
  Rd H a (.lst xs) ∨
    ∃ (o : Obj) (its : Array Value) (n : Nat), K.lookup a = some o ∧ o.cls = .type "list" ∧ o.dict = none ∧ o.data = .seq its n ∧ its.size ≤ sizeLine ∧ Vals xs its.toList
def SqT (K : PySem.W.Frag) (H : Hp) (a : Addr) (xs : List V) : Prop :=
  Rd H a (.tup xs) ∨
    ∃ (o : Obj) (its : Array Value) (n : Nat), K.lookup a = some o ∧ o.cls = .type "tuple" ∧ o.data = .seq its n ∧ its.size ≤ sizeLine ∧ Vals xs its.toList
def absV : Value → Option V
  | .none => some .non
  | .bool b => some (.bl b)
  | .int i _ => some (.int i)
  | .str x _ => some (.str x)
  | .bytes b _ => some (.byt b)
  | .float b _ => some (.flt b)
  | .ref a => some (.ref a)
  | .type n => some (.ty n)
  | _ => none
theorem RelV.abs {x : V} {u : Value} (r : RelV x u) : absV u = some x := by
  cases x with
  | non => cases r; rfl
  | bl _ => cases r; rfl
  | int _ => obtain ⟨t, rfl⟩ := r; rfl
  | str _ => obtain ⟨t, rfl⟩ := r; rfl
  | byt _ => obtain ⟨t, rfl⟩ := r; rfl
  | flt _ => obtain ⟨t, rfl⟩ := r; rfl
  | ref _ => cases r; rfl
  | ty _ => cases r; rfl
theorem RelV.inj {x y : V} {u : Value} (r : RelV x u) (q : RelV y u) : x = y := Option.some.inj (r.abs.symm.trans q.abs)
theorem Vals.inj : ∀ {xs ys : List V} {us : List Value}, Vals xs us → Vals ys us → xs = ys
  | _, _, _, .nil, .nil => rfl
  | _, _, _, .cons r t, .cons r' t' => by rw [r.inj r', Vals.inj t t']
section
variable {X : Cx} {pins : List (Addr × Obj)} {σ : St} {H : Hp} {s : Shared} {a : Addr} {xs ys : List V}
theorem SqL.of {K : PySem.W.Frag} (h : H a = some (.lst xs)) : SqL K H a xs := .inl (.inl h)
theorem SqT.of {K : PySem.W.Frag} (h : H a = some (.tup xs)) : SqT K H a xs := .inl (.inl h)
theorem Inv.list (I : Inv X pins σ H s) (h : SqL X.K H a xs) : ∃ its : List Value, Vals xs its ∧ PlainL s.heap a its.toArray ∧ xs.length ≤ sizeLine := by
  rcases h with h | ⟨o, its, n, hk, hc, hd, hs, hz, r⟩
  · obtain ⟨z, its, n, r, e⟩ := h.ok I.hok
    exact ⟨its, r, ⟨_, n, e, rfl, rfl, rfl⟩, z⟩
  · refine ⟨its.toList, r, ⟨o, n, I.kIn a o hk, hc, hd, by simpa using hs⟩, ?_⟩
    have e := r.length
    simp only [Array.length_toList] at e
    omega
theorem Inv.tuple (I : Inv X pins σ H s) (h : SqT X.K H a xs) : ∃ its : List Value, Vals xs its ∧ IsTup s.heap a its.toArray ∧ xs.length ≤ sizeLine := by
  rcases h with h | ⟨o, its, n, hk, hc, hs, hz, r⟩
  · obtain ⟨z, its, r, p⟩ := h.ok I.hok
    exact ⟨its, r, p, z⟩
  · refine ⟨its.toList, r, ⟨o, I.kIn a o hk, hc, n, by simpa using hs⟩, ?_⟩
    have e := r.length
    simp only [Array.length_toList] at e
    omega
theorem Inv.list_inj (I : Inv X pins σ H s) (h : SqL X.K H a xs) (h' : SqL X.K H a ys) : xs = ys := by
  obtain ⟨its, r, ⟨o, n, e, _, _, d⟩, _⟩ := I.list h
  obtain ⟨its', r', ⟨o', n', e', _, _, d'⟩, _⟩ := I.list h'
  rw [e] at e'; cases e'
  rw [d] at d'
  injection d' with d1 _
  have : its = its' := by simpa using congrArg Array.toList d1
  subst this
  exact r.inj r'
end

/-! ### another wish about exceptions -/
abbrev Cx.wish (X : Cx) (E : Value → Shared → Prop) : Cx := { X with xe := E }
/-- no exception leaves -/
abbrev Cx.nox (X : Cx) : Cx := X.wish fun _ _ => False
theorem Cx.Ok.wish {X : Cx} (ok : X.Ok) (E : Value → Shared → Prop) : (X.wish E).Ok :=
  ⟨ok.mod, ok.kind, ok.glob, ok.blt, ok.above, ok.inj, ok.has, ok.cab, ok.hd, ok.frames, ok.stk, ok.exf, ok.bs, ok.bsz, ok.noex, ok.exfs, ok.funs, ok.frf⟩
theorem Cx.Ok.unwish {X : Cx} {E : Value → Shared → Prop} (ok : (X.wish E).Ok) : X.Ok :=
  ⟨ok.mod, ok.kind, ok.glob, ok.blt, ok.above, ok.inj, ok.has, ok.cab, ok.hd, ok.frames, ok.stk, ok.exf, ok.bs, ok.bsz, ok.noex, ok.exfs, ok.funs, ok.frf⟩
section
variable {X : Cx} {pins : List (Addr × Obj)} {σ : St} {H : Hp} {s : Shared} {E : Value → Shared → Prop}
theorem Inv.wish (I : Inv X pins σ H s) (E : Value → Shared → Prop) : Inv (X.wish E) pins σ H s := ⟨I.ok.wish E, I.os, I.bare, I.base, I.loc, I.cell, I.free, I.freeC, I.pin, I.hok, I.len⟩
theorem Inv.unwish (I : Inv (X.wish E) pins σ H s) : Inv X pins σ H s := ⟨I.ok.unwish, I.os, I.bare, I.base, I.loc, I.cell, I.free, I.freeC, I.pin, I.hok, I.len⟩
theorem SP.unwish {D : Ends} {f : Flow} {s' : Shared} (h : SP (X.wish E) pins D f s') : SP X pins D f s' := by
  cases f with
  | next => obtain ⟨σ', H', I, q⟩ := h; exact ⟨σ', H', I.unwish, q⟩
  | brk => obtain ⟨σ', H', I, q⟩ := h; exact ⟨σ', H', I.unwish, q⟩
  | cont => obtain ⟨σ', H', I, q⟩ := h; exact ⟨σ', H', I.unwish, q⟩
  | ret u => obtain ⟨v, σ', H', I, r, q⟩ := h; exact ⟨v, σ', H', I.unwish, r, q⟩
theorem PSs.nox {st : List Stmt} {t : TS} (h : PSs X.nox st t) : PSs X st t := fun pins s σ H D I hw =>
  wpAny_mono (h pins s σ H D (I.wish _) hw) (fun _ _ q => q.unwish) fun _ _ z => False.elim z
end

/-! ### blocks and small statements -/
section
variable {X : Cx} {st : Stmt} {rest : List Stmt} {t u : TS} {e : Expr} {te : TE} {pos : Pos}
def tNext : TS := fun D σ H => D.nx σ H
def tSeq (t u : TS) : TS := fun D σ H => t { D with nx := u D } σ H
theorem pss_nil : PSs X [] tNext := fun _ _ σ H _ I h => wpAny_execs_nil ⟨σ, H, I, h⟩
theorem pss_cons (h1 : PS X st t) (h2 : PSs X rest u) : PSs X (st :: rest) (tSeq t u) := by
  intro pins s σ H D I h
  refine wpAny_execs_cons (thn (h1 pins s σ H { D with nx := u D } I h) fun f s1 q => ?_)
  cases f with
  | next =>
    obtain ⟨σ', H', I', q⟩ := q
    exact h2 pins s1 σ' H' D I' q
  | ret v => exact q
  | brk => exact q
  | cont => exact q
theorem pss_one (h1 : PS X st t) : PSs X [st] t := by
  intro pins s σ H D I h
  refine wpAny_execs_cons (thn (h1 pins s σ H D I h) fun f s1 q => ?_)
  cases f with
  | next => exact wpAny_execs_nil q
  | ret v => exact q
  | brk => exact q
  | cont => exact q
/-- in a def's body nothing is shown -/
theorem Inv.quiet {pins : List (Addr × Obj)} {σ : St} {H : Hp} {s : Shared} (I : Inv X pins σ H s) : interactive X.env = false := by simp [interactive, I.ok.kind]
/-- an expression whose value is dropped -/
def tDrop (te : TE) : TS := fun D σ H => te σ H fun _ H1 => D.nx σ H1
theorem ps_expr (he : PE X e te) (hs : swapsWith e none pos.line X.env = pure false := by rfl) : PS X (.Expr e pos) (tDrop te) := by
  intro pins s σ H D I h
  exact wpAny_Expr_any (thn (he pins s σ H _ I h) fun v s1 ⟨x, H1, I1, r1, q1⟩ => ⟨σ, H1, I1, q1⟩) I.quiet hs
def tRet (te : TE) : TS := fun D σ H => te σ H D.rt
theorem ps_ret (he : PE X e te) : PS X (.Return (some e) pos) (tRet te) := by
  intro pins s σ H D I h
  exact wpAny_Return_some (thn (he pins s σ H _ I h) fun v s1 ⟨x, H1, I1, r1, q1⟩ => ⟨x, σ, H1, I1, r1, q1⟩)
def tIfS (c : TT) (t u : TS) : TS := fun D σ H => c σ H fun b H1 => if b = true then t D σ H1 else u D σ H1
theorem ps_if {c : Expr} {a b : List Stmt} {tc : TT} (hc : PT X c tc) (ha : PSs X a t) (hb : PSs X b u) : PS X (.If c a b pos) (tIfS tc t u) := by
  intro pins s σ H D I h
  refine wpAny_If (thn (hc pins s σ H _ I h) fun d s1 ⟨H1, I1, q1⟩ => ?_)
  cases d with
  | true => exact ha pins s1 σ H1 D I1 q1
  | false => exact hb pins s1 σ H1 D I1 q1
/-- code that the proof never comes to -/
def tNever : TS := fun _ _ _ => False
theorem ps_never : PS X st tNever := fun _ _ _ _ _ _ h => h.elim
end

/-! ### targets -/
abbrev TG := V → St → Hp → (St → Hp → Prop) → Prop
abbrev TGs := List V → St → Hp → (St → Hp → Prop) → Prop
def PG (X : Cx) (target : Expr) (t : TG) : Prop :=
  ∀ (pins : List (Addr × Obj)) (s : Shared) (σ : St) (H : Hp) (v : V) (u : Value) (Q : St → Hp → Prop), Inv X pins σ H s → RelV v u → t v σ H Q →
    wpAny (model X.prog X.w) X.A (assign target X.env u) (fun _ s' => ∃ σ' H', Inv X pins σ' H' s' ∧ Q σ' H') X.xe s
/-- several targets, one after another -/
def PGs (X : Cx) (ts : List Expr) (t : TGs) : Prop :=
  ∀ (pins : List (Addr × Obj)) (s : Shared) (σ : St) (H : Hp) (vs : List V) (us : List Value) (Q : St → Hp → Prop), Inv X pins σ H s → Vals vs us → t vs σ H Q →
    wpAny (model X.prog X.w) X.A (assignInOrder ((assignEach ts X.env).map (·.2)) us) (fun _ s' => ∃ σ' H', Inv X pins σ' H' s' ∧ Q σ' H') X.xe s
/-- o[i] = v, by values -/
abbrev TSet := V → V → V → Hp → (Hp → Prop) → Prop
def PSet (X : Cx) (t : TSet) : Prop :=
  ∀ (pins : List (Addr × Obj)) (s : Shared) (σ : St) (H : Hp) (o i v : V) (ov iv u : Value) (Q : Hp → Prop), Inv X pins σ H s → RelV o ov → RelV i iv → RelV v u → t o i v H Q →
    wpAny (model X.prog X.w) X.A (setItem ov iv u) (fun _ s' => ∃ H', Inv X pins σ H' s' ∧ Q H') X.xe s
section
variable {X : Cx} {pos : Pos}
def gName (i : Nat) : TG := fun v σ H Q => Q (σ.set i (some v)) H
theorem pg_name {i : Nat} {x : Str} (hN : X.N.Nodup) (hi : X.N[i]? = some x) (hx : Loc X.env.scope x) (hf : X.fn x = true ∨ X.env.scope.names.lookup x = some .local := by first | exact .inl rfl | exact .inr rfl | assumption) : PG X (.Name x pos) (gName i) := by
  intro pins s σ H v u Q I r h
  exact wpAny_assign_Name (store_ok I hN hi hx r (fun s' I' => ⟨_, H, I', h⟩) hf)
def gNil : TGs := fun vs σ H Q => vs = [] ∧ Q σ H
def gCons (t : TG) (u : TGs) : TGs := fun vs σ H Q => ∃ v r, vs = v :: r ∧ t v σ H fun σ' H' => u r σ' H' Q
theorem pgs_nil : PGs X [] gNil := by
  intro pins s σ H vs us Q I r h
  obtain ⟨e, h⟩ := h
  subst e
  cases r
  exact assignInOrder_nil ⟨σ, H, I, h⟩
theorem pgs_cons {e : Expr} {es : List Expr} {t : TG} {u : TGs} (h1 : PG X e t) (h2 : PGs X es u)
    (hs : (assignEach (e :: es) X.env).map (·.2) = assign e X.env :: (assignEach es X.env).map (·.2) := by rfl) : PGs X (e :: es) (gCons t u) := by
  intro pins s σ H vs us Q I r h
  obtain ⟨v, vr, e1, h⟩ := h
  subst e1
  cases r with
  | cons r rr =>
    rw [hs]
    refine assignInOrder_cons (thn (h1 pins s σ H _ _ _ I r h) fun _ s1 ⟨σ1, H1, I1, q1⟩ => ?_)
    exact h2 pins s1 σ1 H1 _ _ Q I1 rr q1
/-- (a, b, ..) = a tuple of that length -/
def gTup (K : PySem.W.Frag) (n : Nat) (t : TGs) : TG := fun v σ H Q => ∃ a xs, v = .ref a ∧ SqT K H a xs ∧ xs.length = n ∧ t xs σ H Q
theorem pg_tup {es : List Expr} {k : Nat} {t : TGs} {n : Nat} (hc : X.calm = true) (h : PGs X es t)
    (hn : (assignEach es X.env).length = n := by rfl) (hst : (assignEach es X.env).findIdx? (·.1) = none := by rfl) : PG X (.Tuple es k pos) (gTup X.K n t) := by
  intro pins s σ H v u Q I r hw
  obtain ⟨a, xs, e1, hq, hl, hw⟩ := hw
  subst e1
  cases r
  obtain ⟨its, rv, ht, hz⟩ := I.tuple hq
  refine assign_Tuple_tuple (I.ok.hd hc) ht (by simp [hn, ← hl, rv.length]) hst fun h' hx => ?_
  have I1 : Inv X pins σ H { s with heap := h' } := I.kept (t' := s.toks) fun b o e => hx b o (Nat.ne_of_lt (Heap.lt_size e)) e
  exact h pins _ σ H xs _ Q I1 (by simpa using rv) hw
/-- o[i] = .. -/
def gSub (to ti : TE) (t : TSet) : TG := fun v σ H Q => to σ H fun o H1 => ti σ H1 fun i H2 => t o i v H2 fun H3 => Q σ H3
theorem pg_sub {o i : Expr} {to ti : TE} {t : TSet} (ho : PE X o to) (hi : PE X i ti) (hs : PSet X t)
    (ha : ∀ v, assign (.Subscript o i pos) X.env v = (do
      let ov ← holding [v] (eval o X.env)
      let iv ← holding [v, ov] (eval i X.env)
      standAt pos
      holding [v, ov, iv] (setItem ov iv v)
      release [v, ov, iv] []) := by intro _; rfl) : PG X (.Subscript o i pos) (gSub to ti t) := by
  intro pins s σ H v u Q I r h
  rw [ha]
  refine wpAny_bind (wpAny_holding (thn (ho pins s σ H _ I h) fun ov s1 ⟨x, H1, I1, r1, q1⟩ => ?_))
  refine wpAny_bind (wpAny_holding (thn (hi pins s1 σ H1 _ I1 q1) fun iv s2 ⟨y, H2, I2, r2, q2⟩ => ?_))
  refine wpAny_bind (wpAny_standAt (wpAny_bind (wpAny_holding (thn (hs pins s2 σ H2 x y v ov iv u _ I2 r1 r2 r q2) fun _ s3 ⟨H3, I3, q3⟩ => ?_))))
  exact wpAny_release ⟨σ, H3, I3, q3⟩
/-- target = value -/
def tAsg (te : TE) (g : TG) : TS := fun D σ H => te σ H fun x H1 => g x σ H1 D.nx
theorem ps_asg {tg e : Expr} {te : TE} {g : TG} (he : PE X e te) (hg : PG X tg g) (hs : swapsWithSole [tg] e pos.line X.env = pure false := by rfl) (hw : swappedStores [tg] e X.env = pure none := by rfl)
    (h1 : (assignEach [tg] X.env).map (·.2) = [assign tg X.env] := by rfl) : PS X (.Assign [tg] e pos) (tAsg te g) := by
  intro pins s σ H D I h
  refine wpAny_Assign_stores (thn (he pins s σ H _ I h) fun v s1 ⟨x, H1, I1, r1, q1⟩ => ?_) hs hw
  rw [h1]
  exact thn (hg pins s1 σ H1 x v _ I1 r1 q1) fun _ s2 q => q
/-- name = value -/
theorem ps_set {i : Nat} {x : Str} {e : Expr} {te : TE} {pos' : Pos} (hN : X.N.Nodup) (hi : X.N[i]? = some x) (hx : Loc X.env.scope x) (he : PE X e te) (hs : swapsWith e (some (.Name x pos')) pos.line X.env = pure false := by rfl) (hf : X.fn x = true ∨ X.env.scope.names.lookup x = some .local := by first | exact .inl rfl | exact .inr rfl | assumption) :
    PS X (.Assign [.Name x pos'] e pos) (tAsg te (gName i)) := by
  intro pins s σ H D I h
  refine wpAny_Assign_Name (thn (he pins s σ H _ I h) fun v s1 ⟨y, H1, I1, r1, q1⟩ => ?_) hs
  exact store_ok I1 hN hi hx r1 (fun s2 I2 => ⟨_, H1, I2, q1⟩) hf
end

/-! ### while -/
section
variable {X : Cx} {pos : Pos}
/-- the invariant W with its measure -/
def tWhile (c : TT) (tb : TS) : TS := fun D σ H => ∃ W : Nat → St → Hp → Prop, (∃ m, W m σ H) ∧ ∀ m σ H, W m σ H →
  c σ H fun b H1 => if b = true then ∃ N : St → Hp → Prop, (∀ σ' H', N σ' H' → ∃ m', m' < m ∧ W m' σ' H') ∧ tb { D with nx := N, ct := N, bk := D.nx } σ H1 else D.nx σ H1
theorem ps_while {c : Expr} {body : List Stmt} {tc : TT} {tb : TS} (hp : PassesOwn (model X.prog X.w) X.A X.env X.xe) (hc : PT X c tc) (hb : PSs X body tb) : PS X (.While c body [] pos) (tWhile tc tb) := by
  intro pins s σ H D I h
  obtain ⟨W, ⟨m0, w0⟩, turn⟩ := h
  refine wpAny_While (codeAny_whileLoop (fun n s' => ∃ σ' H', Inv X pins σ' H' s' ∧ W n σ' H') ?_ m0 ⟨σ, H, I, w0⟩)
  rintro n s1 ⟨σ1, H1, I1, w1⟩
  refine wpAny_passesOwn hp (thn (hc pins s1 σ1 H1 _ I1 (turn n σ1 H1 w1)) fun b s2 ⟨H2, I2, q2⟩ => ?_)
  cases b with
  | true =>
    obtain ⟨N, hN, q2⟩ := q2
    rw [if_pos rfl]
    refine wpAny_passesOwn hp (thn (hb pins s2 σ1 H2 _ I2 q2) fun f s3 q3 => ?_)
    cases f with
    | next =>
      obtain ⟨σ3, H3, I3, n3⟩ := q3
      obtain ⟨m', hm, w3⟩ := hN σ3 H3 n3
      exact ⟨m', hm, σ3, H3, I3, w3⟩
    | cont =>
      obtain ⟨σ3, H3, I3, n3⟩ := q3
      obtain ⟨m', hm, w3⟩ := hN σ3 H3 n3
      exact ⟨m', hm, σ3, H3, I3, w3⟩
    | brk => exact q3
    | ret v => exact q3
  | false =>
    rw [if_neg Bool.false_ne_true]
    exact wpAny_execs_nil ⟨σ1, H2, I2, q2⟩
end

/-! ### what a loop or a comprehension walks -/
/-- at turn i: it yields x (the heap may grow), or it stops -/
structure It where
  go : Nat → Hp → Prop
  yld : Nat → Hp → V → Hp → Prop
  stop : Nat → Hp → Prop
/-- the iterator's own objects may turn: they are not the frame's, not pinned, younger than the entry (or a comprehension's own) -/
def FpOk (X : Cx) (pins : List (Addr × Obj)) (H : Hp) (b : Addr) : Prop :=
  H b = none ∧ b ≠ X.env.locals ∧ b ∉ X.fs ∧ (b ∈ X.ex ∨ X.s₀.heap.objs.size ≤ b) ∧ (∀ x c, X.env.cells.lookup x = some c → c ≠ b) ∧ ∀ p ∈ X.pn ++ pins, p.1 ≠ b
theorem Inv.fpOk {X : Cx} {pins : List (Addr × Obj)} {σ : St} {H H' : Hp} {s : Shared} {b : Addr} (I : Inv X pins σ H s) (hb : s.heap.objs.size ≤ b) (hn : H' b = none) : FpOk X pins H' b := by
  refine ⟨hn, Nat.ne_of_gt (Nat.lt_of_lt_of_le I.lt hb), I.nofs hb, .inr (Nat.le_trans I.sz hb), fun x c e z => ?_, fun p hp z => ?_⟩
  · obtain ⟨v, q⟩ := I.cell x c e
    exact absurd (Nat.lt_of_lt_of_le q.lt (by rw [z]; exact hb)) (Nat.lt_irrefl _)
  · exact absurd (Nat.lt_of_lt_of_le (Heap.lt_size (I.pin p hp).1) (by rw [z]; exact hb)) (Nat.lt_irrefl _)
structure Turn (P : Program) (w : World) (K : PySem.W.Frag) (tg : Expr) (J : It) (fp : List Addr) (it : Addr) (tn : Nat → Heap → Prop) : Prop where
  mem : it ∈ fp
  obj : ∀ i h, tn i h → ∀ b ∈ fp, ∃ o, h.get? b = some o ∧ ∀ v, o.data ≠ .cell v
  keep : ∀ i h h', tn i h → (∀ b ∈ fp, ∀ o, h.get? b = some o → h'.get? b = some o) → tn i h'
  item : ∀ (X : Cx), X.prog = P → X.w = w → X.K = K → X.calm = true → ∀ (i : Nat) (pins : List (Addr × Obj)) (s : Shared) (σ : St) (H : Hp) (E : Value → Shared → Prop), Inv X pins σ H s → (∀ b ∈ fp, FpOk X pins H b) → tn i s.heap → J.go i H →
    wpAny (model P w) X.A (pyNext (.ref it)) (fun r s1 => ∃ u, r = some u ∧
      wpAny (model P w) X.A (letOwnedTupleGo tg (.ref it) u) (fun _ s2 => ∃ x H', Inv X pins σ H' s2 ∧ RelV x u ∧ J.yld i H x H' ∧ tn (i + 1) s2.heap ∧ ∀ b ∈ fp, H' b = none) E s1) E s
  done : ∀ (X : Cx), X.prog = P → X.w = w → X.K = K → X.calm = true → ∀ (i : Nat) (pins : List (Addr × Obj)) (s : Shared) (σ : St) (H : Hp) (E : Value → Shared → Prop), Inv X pins σ H s → (∀ b ∈ fp, FpOk X pins H b) → tn i s.heap → J.stop i H →
    wpAny (model P w) X.A (pyNext (.ref it)) (fun r s1 => r = none ∧ Inv X pins σ H s1) E s
  self : ∀ (A : Around) (i : Nat) (s : Shared) (Q : Value → Shared → Prop) (E : Value → Shared → Prop), tn i s.heap → Q (.ref it) s → wpAny (model P w) A (pyIter (.ref it)) Q E s
abbrev TI := St → Hp → (It → Hp → Prop) → Prop
/-- an iterator has come -/
def PIE (X : Cx) (pins : List (Addr × Obj)) (σ : St) (tg : Expr) (R : It → Hp → Prop) (itv : Value) (s2 : Shared) : Prop :=
  ∃ (it : Addr) (fp : List Addr) (tn : Nat → Heap → Prop) (J : It) (H' : Hp), itv = .ref it ∧ Inv X pins σ H' s2 ∧ Turn X.prog X.w X.K tg J fp it tn ∧ tn 0 s2.heap ∧ (∀ b ∈ fp, FpOk X pins H' b) ∧ R J H'
def PI (X : Cx) (tg iter : Expr) (wi : TI) : Prop :=
  ∀ (pins : List (Addr × Obj)) (s : Shared) (σ : St) (H : Hp) (R : It → Hp → Prop), Inv X pins σ H s → wi σ H R →
    wpAny (model X.prog X.w) X.A (eval iter X.env) (fun v s1 => wpAny (model X.prog X.w) X.A (pyIter v) (PIE X pins σ tg R) X.xe s1) X.xe s

/-- the step ahead of the store is nothing for an iterator that keeps no tuple -/
theorem go_of {M : Model} {A : Around} {E : Value → Shared → Prop} {s : Shared} {tg : Expr} {it : Addr} {u : Value} {o : Obj} {n : String} {vs : Array Value} {Q : Unit → Shared → Prop} (ho : s.heap.get? it = some o) (hc : o.cls = .type n) (hd : o.data = .fields vs)
    (hn : ["enumerate", "zip", "dict_itemiterator", "dict_reverseitemiterator", "odict_iterator", "itertools.zip_longest", "itertools.pairwise"].contains n = false) (hQ : Q () s) : wpAny M A (letOwnedTupleGo tg (.ref it) u) Q E s := by
  unfold letOwnedTupleGo
  cases tg <;> first
    | exact wpAny_pure hQ
    | (cases u <;> first
        | exact wpAny_pure hQ
        | (refine wpAny_bind (wpAny_load ho ?_)
           rw [hc, hd]
           show wpAny M A (if (["enumerate", "zip", "dict_itemiterator", "dict_reverseitemiterator", "odict_iterator", "itertools.zip_longest", "itertools.pairwise"].contains n && vs[0]? == some (rawInt _)) = true then _ else _) Q E s
           rw [if_neg (by intro h; rw [hn, Bool.false_and] at h; cases h)]
           exact wpAny_pure hQ))

/-- the list at a, as it stands at each turn (a loop may append to it) -/
def Itl (K : PySem.W.Frag) (a : Addr) : It :=
  ⟨fun i H => ∃ xs x, SqL K H a xs ∧ xs[i]? = some x, fun i H x H' => H' = H ∧ ∀ xs, SqL K H a xs → xs[i]? = some x, fun i H => ∃ xs, SqL K H a xs ∧ xs.length ≤ i⟩
/-- lo, lo + 1, .. (n of them) -/
def Itr (lo : Int) (n : Nat) : It := ⟨fun i _ => i < n, fun i H x H' => H' = H ∧ x = .int (lo + i), fun i _ => n ≤ i⟩
theorem turn_list {P : Program} {w : World} {K : PySem.W.Frag} {tg : Expr} (a it : Addr) : Turn P w K tg (Itl K a) [it] it (fun i h => h.IsListIter it a i) where
  mem := by simp
  obj := fun i h st b hb => by
    have e : b = it := by simpa using hb
    subst e
    obtain ⟨o, e, c, d⟩ := st
    exact ⟨o, e, fun v z => by rw [d] at z; cases z⟩
  keep := fun i h h' st k => st.at fun o e => k it (by simp) o e
  item := by
    intro X hP hw hK hc i pins s σ H E I hf st hg
    subst hP hw hK
    obtain ⟨xs, x, hq, hx⟩ := hg
    obtain ⟨its, rv, p, hz⟩ := I.list hq
    obtain ⟨u, hu, ru⟩ := rv.get hx
    obtain ⟨f0, f1, f2, f3, f4, f5⟩ := hf it (by simp)
    refine wpAny_pyNext_list_item st p.isList (x := u) (by simpa using hu) fun h' st' sb => ?_
    have I1 : Inv X pins σ H { s with heap := h' } := I.turned (t' := s.toks) (fun b o hb e => (sb.2 b hb).trans e) f0 f1 f3 f4 f5
    obtain ⟨o, e, c, d⟩ := id st'
    exact ⟨u, rfl, go_of (s := { s with heap := h' }) e c d (by decide) ⟨x, H, I1, ru, ⟨rfl, fun ys hy => by rw [I.list_inj hy hq]; exact hx⟩, st', fun b hb => (hf b hb).1⟩⟩
  done := by
    intro X hP hw hK hc i pins s σ H E I hf st hg
    subst hP hw hK
    obtain ⟨xs, hq, hx⟩ := hg
    obtain ⟨its, rv, p, hz⟩ := I.list hq
    obtain ⟨f0, f1, f2, f3, f4, f5⟩ := hf it (by simp)
    have hl := rv.length
    exact wpAny_pyNext_list_end (I.ok.hd hc) st p.isList (by simp; omega) fun h' eb => ⟨rfl, I.turned (t' := s.toks) (fun b o hb e => eb b o hb e) f0 f1 f3 f4 f5⟩
  self := fun _ _ _ _ _ st h => wpAny_pyIter_listiter st h
theorem turn_range {P : Program} {w : World} {K : PySem.W.Frag} {tg : Expr} (it : Addr) (lo : Int) (n : Nat) : Turn P w K tg (Itr lo n) [it] it (fun i h => IsRangeIter h it (lo + (i : Nat) * 1) ((n : Int) - (i : Nat)) 1) where
  mem := by simp
  obj := fun i h st b hb => by
    have e : b = it := by simpa using hb
    subst e
    exact ⟨_, st, fun v z => by
      have z' : Data.fields _ = Data.cell v := z
      cases z'⟩
  keep := fun i h h' st k => k it (by simp) _ st
  item := by
    intro X hP hw hK hc i pins s σ H E I hf st hg
    subst hP hw hK
    obtain ⟨f0, f1, f2, f3, f4, f5⟩ := hf it (by simp)
    have W := Walks.range (prog := X.prog) (w := X.w) (I.ok.hd hc) it lo 1 n
    refine W.item i s _ _ hg st fun v h' tk hv st' kk => ?_
    obtain ⟨t, rfl⟩ := hv
    have I1 : Inv X pins σ H { s with heap := h', toks := tk } := I.turned (fun b o hb e => kk b o (by simpa using hb) e) f0 f1 f3 f4 f5
    refine ⟨_, rfl, go_of (s := { s with heap := h', toks := tk }) (n := "range_iterator") st' rfl rfl (by decide) ⟨.int (lo + i), H, I1, ⟨t, ?_⟩, ⟨rfl, rfl⟩, st', fun b hb => (hf b hb).1⟩⟩
    rw [Int.mul_one]
  done := by
    intro X hP hw hK hc i pins s σ H E I hf st hg
    subst hP hw hK
    obtain ⟨f0, f1, f2, f3, f4, f5⟩ := hf it (by simp)
    exact wpAny_pyNext_range_end (I.ok.hd hc) st (by have : n ≤ i := hg; omega) fun h' eb => ⟨rfl, I.turned (t' := s.toks) (fun b o hb e => eb b o hb e) f0 f1 f3 f4 f5⟩
  self := fun _ _ _ _ _ st h => wpAny_pyIter_rangeiter st h
end L2

namespace L2
open PySem PySem.Spec PyProof.Rows
section
variable {X : Cx} {tg : Expr}
def iList (K : PySem.W.Frag) (tl : TE) : TI := fun σ H R => tl σ H fun x H1 => ∃ a, x = .ref a ∧ (∃ xs, SqL K H1 a xs) ∧ R (Itl K a) H1
theorem pi_list {l : Expr} {tl : TE} (hl : PE X l tl) : PI X tg l (iList X.K tl) := by
  intro pins s σ H R I h
  refine thn (hl pins s σ H _ I h) fun v s1 ⟨x, H1, I1, r1, q1⟩ => ?_
  obtain ⟨a, e, ⟨xs, hq⟩, q⟩ := q1
  subst e
  cases r1
  obtain ⟨its, rv, p, hz⟩ := I1.list hq
  refine wpAny_pyIter_list p.isList ?_
  refine ⟨s1.heap.objs.size, [s1.heap.objs.size], _, _, H1, rfl, I1.kept (t' := s1.toks) fun b o e => Heap.get?_push_of_some _ e, turn_list a _, ⟨_, Heap.get?_push_size _ rfl, rfl, rfl⟩, fun b hb => ?_, q⟩
  have e : b = s1.heap.objs.size := by simpa using hb
  subst e
  exact I1.fpOk (Nat.le_refl _) (I1.hok.fresh (Nat.le_refl _))
/-- a range object just made, walked -/
theorem range_it {pins : List (Addr × Obj)} {σ : St} {H : Hp} {s : Shared} {R : It → Hp → Prop} {E : Value → Shared → Prop} {lo hi : Int} {t u v : Tok} {tk : Nat} (I : Inv X pins σ H s) (h1 : -(2 ^ 62) ≤ lo) (h2 : lo < 2 ^ 62) (h3 : -(2 ^ 62) ≤ hi) (h4 : hi < 2 ^ 62)
    (q : R (Itr lo (hi - lo).toNat) H) : wpAny (model X.prog X.w) X.A (pyIter (.ref s.heap.objs.size)) (PIE X pins σ tg R) E { s with heap := s.heap.push { cls := .type "range", data := .fields #[.int lo t, .int hi u, .int 1 v] }, toks := tk } := by
  refine wpAny_pyIter_range (IsRange.new ..) (small_one h1 h2 h3 h4) ?_
  have I1 : Inv X pins σ H { s with heap := s.heap.push { cls := .type "range", data := .fields #[.int lo t, .int hi u, .int 1 v] }, toks := tk } := I.kept fun b o e => Heap.get?_push_of_some _ e
  refine ⟨(s.heap.push { cls := .type "range", data := .fields #[.int lo t, .int hi u, .int 1 v] }).objs.size, [(s.heap.push { cls := .type "range", data := .fields #[.int lo t, .int hi u, .int 1 v] }).objs.size], _, _, H, rfl,
    I1.kept (t' := tk) fun b o e => Heap.get?_push_of_some _ e, turn_range _ lo (hi - lo).toNat, ?_, fun b hb => ?_, q⟩
  · have e1 : lo + ((0 : Nat) : Int) * 1 = lo := by simp
    have e2 : (((hi - lo).toNat : Nat) : Int) - ((0 : Nat) : Int) = Builtin.Range.rangeSize lo hi 1 := by rw [rangeSize_one]; split <;> omega
    show IsRangeIter _ _ (lo + ((0 : Nat) : Int) * 1) ((((hi - lo).toNat : Nat) : Int) - ((0 : Nat) : Int)) 1
    rw [e1, e2]
    exact Heap.get?_push_size _ rfl
  · have e : b = (s.heap.push { cls := .type "range", data := .fields #[.int lo t, .int hi u, .int 1 v] }).objs.size := by simpa using hb
    subst e
    exact I1.fpOk (Nat.le_refl _) (I1.hok.fresh (Nat.le_refl _))
def iRng1 (ta : TA) : TI := fun σ H R => ta σ H fun vs H1 => ∃ j : Int, vs = [.int j] ∧ -(2 ^ 62) ≤ j ∧ j < 2 ^ 62 ∧ R (Itr 0 j.toNat) H1
def iRng2 (ta : TA) : TI := fun σ H R => ta σ H fun vs H1 => ∃ i j : Int, vs = [.int i, .int j] ∧ (-(2 ^ 62) ≤ i ∧ i < 2 ^ 62 ∧ -(2 ^ 62) ≤ j ∧ j < 2 ^ 62) ∧ R (Itr i (j - i).toNat) H1
theorem pi_range1 {a : Expr} {ta : TA} {p pos : Pos} (hg : Gl X "range") (hm : X.mg "range" = none) (ha : PA X [a] ta) (hs : starEach [a] X.env = [(false, eval a X.env)] := by rfl) : PI X tg (.Call (.Name "range" p) [a] [] pos) (iRng1 ta) := by
  intro pins s σ H R I h
  refine Call_ (ld_blt I hg hm boot_range (PyProof.Rows.callWith_type1 (thn (ha pos pins s σ H _ I h) fun us s1 ⟨vs, H1, I1, r1, q1⟩ => ?_) hs rfl))
  obtain ⟨j, e, q1, q2, q⟩ := q1
  subst e
  cases r1 with
  | cons r rr =>
    cases rr
    obtain ⟨t, rfl⟩ := r
    exact call_range_1 (range_it I1 (by omega) (by omega) q1 q2 (by simpa using q))
theorem pi_range2 {a b : Expr} {ta : TA} {p pos : Pos} (hg : Gl X "range") (hm : X.mg "range" = none) (ha : PA X [a, b] ta) (hs : starEach [a, b] X.env = [(false, eval a X.env), (false, eval b X.env)] := by rfl) (hs2 : starEach [b] X.env = [(false, eval b X.env)] := by rfl) :
    PI X tg (.Call (.Name "range" p) [a, b] [] pos) (iRng2 ta) := by
  intro pins s σ H R I h
  refine Call_ (ld_blt I hg hm boot_range (PyProof.Rows.callWith_type1 (thn (ha pos pins s σ H _ I h) fun us s1 ⟨vs, H1, I1, r1, q1⟩ => ?_) (by rw [hs, hs2]) (by rw [hs2]; rfl)))
  obtain ⟨i, j, e, ⟨q1, q2, q3, q4⟩, q⟩ := q1
  subst e
  cases r1 with
  | cons r rr =>
    cases rr with
    | cons r' rr =>
      cases rr
      obtain ⟨t, rfl⟩ := r
      obtain ⟨t', rfl⟩ := r'
      exact call_range_2 (range_it I1 q1 q2 q3 q4 q)

/-! ### for -/
/-- W: the invariant by the turn and a measure; N: what the body is to reach -/
def tFor (wi : TI) (g : TG) (tb : TS) : TS := fun D σ H => wi σ H fun J H1 => ∃ W : Nat → Nat → St → Hp → Prop, (∃ m, W 0 m σ H1) ∧ ∀ i m σ H, W i m σ H →
  (J.stop i H ∧ D.nx σ H) ∨ (J.go i H ∧ ∃ N : St → Hp → Prop, (∀ σ' H', N σ' H' → ∃ m', m' < m ∧ W (i + 1) m' σ' H') ∧ ∀ x H', J.yld i H x H' → g x σ H' fun σ2 H2 => tb { D with nx := N, ct := N, bk := D.nx } σ2 H2)
/-- the records at fp as they stand -/
def pinsAt (fp : List Addr) (h : Heap) : List (Addr × Obj) := fp.filterMap fun b => (h.get? b).map fun o => (b, o)
theorem mem_pinsAt {fp : List Addr} {h : Heap} {b : Addr} {o : Obj} (hb : b ∈ fp) (e : h.get? b = some o) : (b, o) ∈ pinsAt fp h := List.mem_filterMap.mpr ⟨b, hb, by rw [e]; rfl⟩
theorem of_pinsAt {fp : List Addr} {h : Heap} {p : Addr × Obj} (hp : p ∈ pinsAt fp h) : p.1 ∈ fp ∧ h.get? p.1 = some p.2 := by
  obtain ⟨b, hb, e⟩ := List.mem_filterMap.mp hp
  cases q : h.get? b with
  | none => rw [q] at e; cases e
  | some o =>
    rw [q] at e
    have e' : (b, o) = p := Option.some.inj e
    subst e'
    exact ⟨hb, q⟩
theorem Inv.pinned {pins : List (Addr × Obj)} {σ : St} {H : Hp} {s : Shared} {fp : List Addr} (I : Inv X pins σ H s) (hf : ∀ b ∈ fp, FpOk X pins H b) (ho : ∀ b ∈ fp, ∃ o, s.heap.get? b = some o ∧ ∀ v, o.data ≠ .cell v) : Inv X (pins ++ pinsAt fp s.heap) σ H s :=
  I.pins_of fun p hp => (List.mem_append.mp hp).elim (fun z => I.pin p (List.mem_append_right _ z)) fun z => by
    obtain ⟨hb, e⟩ := of_pinsAt z
    obtain ⟨f0, f1, f2, _⟩ := hf p.1 hb
    obtain ⟨o, e', d⟩ := ho p.1 hb
    rw [e] at e'; cases e'
    exact ⟨e, f0, f1, f2, d⟩
theorem Inv.unpinned {pins pl : List (Addr × Obj)} {σ : St} {H : Hp} {s : Shared} (I : Inv X (pins ++ pl) σ H s) : Inv X pins σ H s := I.pins_of fun p hp => I.pin p (List.mem_append_right _ (List.mem_append_left _ hp))
theorem ps_for {iter : Expr} {body : List Stmt} {wi : TI} {g : TG} {tb : TS} {pos : Pos} (hp : PassesOwn (model X.prog X.w) X.A X.env X.xe) (hc : X.calm = true) (hi : PI X tg iter wi) (hg : PG X tg g) (hb : PSs X body tb)
    (hs : ∀ x, foldedSetIterable iter X.env x = pure x := by intro _; rfl) : PS X (.For tg iter body [] pos) (tFor wi g tb) := by
  intro pins s σ H D I h
  refine wpAny_For (thn (hi pins s σ H _ I h) fun v s1 h1 => thn h1 fun itv s2 h2 => ?_) hs
  obtain ⟨it, fp, tn, J, H2, e, I2, T, st2, f2, W, ⟨m0, w0⟩, turn⟩ := h2
  subst e
  -- what stays true of the iterator's objects through the loop
  have stat : ∀ {H' : Hp}, (∀ b ∈ fp, H' b = none) → ∀ b ∈ fp, FpOk X pins H' b := fun hn b hb => ⟨hn b hb, (f2 b hb).2⟩
  refine codeAny_forLoop_any (fun n s' => ∃ i σ' H', Inv X pins σ' H' s' ∧ tn i s'.heap ∧ (∀ b ∈ fp, H' b = none) ∧ W i n σ' H') ?_ m0 ⟨0, σ, H2, I2, st2, fun b hb => (f2 b hb).1, w0⟩
  rintro n s3 ⟨i, σ3, H3, I3, st3, fr3, w3⟩
  rcases turn i n σ3 H3 w3 with ⟨stop, qn⟩ | ⟨go, N, hN, step⟩
  · refine wpAny_passesOwn hp (thn (T.done X rfl rfl rfl hc i pins s3 σ3 H3 X.xe I3 (stat fr3) st3 stop) fun r s4 ⟨hr, I4⟩ => ?_)
    subst hr
    exact wpAny_execs_nil ⟨σ3, H3, I4, qn⟩
  · refine wpAny_passesOwn hp (thn (T.item X rfl rfl rfl hc i pins s3 σ3 H3 X.xe I3 (stat fr3) st3 go) fun r s4 ⟨u, hr, h4⟩ => ?_)
    subst hr
    refine wpAny_passesOwn hp (thn h4 fun _ s5 ⟨x, H5, I5, r5, y5, st5, fr5⟩ => ?_)
    have I5' := I5.pinned (stat fr5) (T.obj _ _ st5)
    refine wpAny_passesOwn hp (thn (hg _ s5 σ3 H5 x u _ I5' r5 (step x H5 y5)) fun _ s6 ⟨σ6, H6, I6, q6⟩ => ?_)
    refine wpAny_passesOwn hp (thn (hb _ s6 σ6 H6 _ I6 q6) fun f s7 q7 => ?_)
    have again : ∀ {σ7 : St} {H7 : Hp}, Inv X (pins ++ pinsAt fp s5.heap) σ7 H7 s7 → N σ7 H7 → ∃ m, m < n ∧ ∃ i σ' H', Inv X pins σ' H' s7 ∧ tn i s7.heap ∧ (∀ b ∈ fp, H' b = none) ∧ W i m σ' H' := fun {σ7 H7} I7 n7 => by
      obtain ⟨m', hm, w7⟩ := hN σ7 H7 n7
      refine ⟨m', hm, i + 1, σ7, H7, I7.unpinned, T.keep _ _ _ st5 fun b hb o e => (I7.pin (b, o) (List.mem_append_right _ (List.mem_append_right _ (mem_pinsAt hb e)))).1, fun b hb => ?_, w7⟩
      obtain ⟨o, e, d⟩ := T.obj _ _ st5 b hb
      exact (I7.pin (b, o) (List.mem_append_right _ (List.mem_append_right _ (mem_pinsAt hb e)))).2.1
    cases f with
    | next => obtain ⟨σ7, H7, I7, n7⟩ := q7; exact again I7 n7
    | cont => obtain ⟨σ7, H7, I7, n7⟩ := q7; exact again I7 n7
    | brk => obtain ⟨σ7, H7, I7, q7⟩ := q7; exact ⟨σ7, H7, I7.unpinned, q7⟩
    | ret v => obtain ⟨x7, σ7, H7, I7, r7, q7⟩ := q7; exact ⟨x7, σ7, H7, I7.unpinned, r7, q7⟩
end

/-! ### the forms one uses -/
/-- over a list that the body leaves as it is -/
theorem for_list {K : PySem.W.Frag} {a : Addr} {xs : List V} {g : TG} {tb : TS} {D : Ends} {σ : St} {H : Hp} (Pv : Nat → St → Hp → Prop) (h0 : Pv 0 σ H) (hl : ∀ i σ H, i ≤ xs.length → Pv i σ H → SqL K H a xs)
    (hs : ∀ i x σ H, xs[i]? = some x → Pv i σ H → g x σ H fun σ2 H2 => tb { D with nx := Pv (i + 1), ct := Pv (i + 1), bk := D.nx } σ2 H2) (hd : ∀ σ H, Pv xs.length σ H → D.nx σ H) :
    ∃ W : Nat → Nat → St → Hp → Prop, (∃ m, W 0 m σ H) ∧ ∀ i m σ H, W i m σ H →
      ((Itl K a).stop i H ∧ D.nx σ H) ∨ ((Itl K a).go i H ∧ ∃ N : St → Hp → Prop, (∀ σ' H', N σ' H' → ∃ m', m' < m ∧ W (i + 1) m' σ' H') ∧ ∀ x H', (Itl K a).yld i H x H' → g x σ H' fun σ2 H2 => tb { D with nx := N, ct := N, bk := D.nx } σ2 H2) := by
  refine ⟨fun i m σ H => m = xs.length - i ∧ i ≤ xs.length ∧ Pv i σ H, ⟨xs.length, by simp, Nat.zero_le _, h0⟩, ?_⟩
  rintro i m σ H ⟨rfl, hi, p⟩
  have q := hl i σ H hi p
  by_cases hlt : i < xs.length
  · refine .inr ⟨⟨xs, xs[i], q, by simp [hlt]⟩, Pv (i + 1), fun σ' H' p' => ⟨xs.length - (i + 1), by omega, rfl, hlt, p'⟩, fun x H' y => ?_⟩
    obtain ⟨e, y⟩ := y
    subst e
    exact hs i x σ _ (y xs q) p
  · have e : i = xs.length := by omega
    subst e
    exact .inl ⟨⟨xs, q, Nat.le_refl _⟩, hd σ H p⟩
theorem for_range {lo : Int} {n : Nat} {g : TG} {tb : TS} {D : Ends} {σ : St} {H : Hp} (Pv : Nat → St → Hp → Prop) (h0 : Pv 0 σ H)
    (hs : ∀ i σ H, i < n → Pv i σ H → g (.int (lo + i)) σ H fun σ2 H2 => tb { D with nx := Pv (i + 1), ct := Pv (i + 1), bk := D.nx } σ2 H2) (hd : ∀ σ H, Pv n σ H → D.nx σ H) :
    ∃ W : Nat → Nat → St → Hp → Prop, (∃ m, W 0 m σ H) ∧ ∀ i m σ H, W i m σ H →
      ((Itr lo n).stop i H ∧ D.nx σ H) ∨ ((Itr lo n).go i H ∧ ∃ N : St → Hp → Prop, (∀ σ' H', N σ' H' → ∃ m', m' < m ∧ W (i + 1) m' σ' H') ∧ ∀ x H', (Itr lo n).yld i H x H' → g x σ H' fun σ2 H2 => tb { D with nx := N, ct := N, bk := D.nx } σ2 H2) := by
  refine ⟨fun i m σ H => m = n - i ∧ i ≤ n ∧ Pv i σ H, ⟨n, by simp, Nat.zero_le _, h0⟩, ?_⟩
  rintro i m σ H ⟨rfl, hi, p⟩
  by_cases hlt : i < n
  · refine .inr ⟨hlt, Pv (i + 1), fun σ' H' p' => ⟨n - (i + 1), by omega, rfl, hlt, p'⟩, fun x H' y => ?_⟩
    obtain ⟨e, y⟩ := y
    subst e y
    exact hs i σ _ hlt p
  · have e : i = n := by omega
    subst e
    exact .inl ⟨Nat.le_refl _, hd σ H p⟩
end L2

namespace L2
open PySem PySem.Spec PyProof.Rows

abbrev R2 := V → V → Hp → VK → Prop
/-- a two-place operation on values: f is binaryOp op, inplaceOp op or compareOp op -/
def OpR (X : Cx) (f : Value → Value → Sem Value) (r : R2) : Prop :=
  ∀ (pins : List (Addr × Obj)) (s : Shared) (σ : St) (H : Hp) (x y : V) (v u : Value) (Q : VK), Inv X pins σ H s → RelV x v → RelV y u → r x y H Q →
    wpAny (model X.prog X.w) X.A (f v u) (EP X pins σ Q) X.xe s
/-- a one-place operation -/
def UnR (X : Cx) (f : Value → Sem Value) (r : V → Hp → VK → Prop) : Prop :=
  ∀ (pins : List (Addr × Obj)) (s : Shared) (σ : St) (H : Hp) (x : V) (v : Value) (Q : VK), Inv X pins σ H s → RelV x v → r x H Q →
    wpAny (model X.prog X.w) X.A (f v) (EP X pins σ Q) X.xe s
/-- a call of a value that is known (a builtin, a type) with values -/
def CallR (X : Cx) (f : Value) (r : List V → Hp → VK → Prop) : Prop :=
  ∀ (pins : List (Addr × Obj)) (s : Shared) (σ : St) (H : Hp) (xs : List V) (us : List Value) (Q : VK), Inv X pins σ H s → Vals xs us → r xs H Q →
    wpAny (model X.prog X.w) X.A (call f us) (EP X pins σ Q) X.xe s
def tOp (r : R2) (ta tb : TE) : TE := fun σ H Q => ta σ H fun x H1 => tb σ H1 fun y H2 => r x y H2 Q
def tUn (r : V → Hp → VK → Prop) (ta : TE) : TE := fun σ H Q => ta σ H fun x H1 => r x H1 Q
/-- ints in, under C, and a value out -/
def rI (C : Int → Int → Prop) (g : Int → Int → V) : R2 := fun x y H Q => ∃ i j, x = .int i ∧ y = .int j ∧ C i j ∧ Q (g i j) H
def rI0 (g : Int → Int → V) : R2 := fun x y H Q => ∃ i j, x = .int i ∧ y = .int j ∧ Q (g i j) H
def rU (g : Int → V) : V → Hp → VK → Prop := fun x H Q => ∃ i, x = .int i ∧ Q (g i) H

section
variable {X : Cx} {a b c : Expr} {ta tb tc : TE} {pos : Pos}

theorem binT (ha : PE X a ta) (hb : PE X b tb) {pins : List (Addr × Obj)} {s : Shared} {σ : St} {H : Hp} {R : V → V → Hp → Prop} (I : Inv X pins σ H s)
    (h : ta σ H fun x H1 => tb σ H1 fun y H2 => R x y H2) {Q : Value → Shared → Prop} {f : Value → Value → Sem Value}
    (hf : ∀ v u s2 x y H2, Inv X pins σ H2 s2 → RelV x v → RelV y u → R x y H2 → wpAny (model X.prog X.w) X.A (f v u) Q X.xe s2) :
    wpAny (model X.prog X.w) X.A (eval a X.env) (fun v s₁ => wpAny (model X.prog X.w) X.A (eval b X.env) (fun u s₂ => wpAny (model X.prog X.w) X.A (f v u) Q X.xe s₂) X.xe s₁) X.xe s := by
  refine thn (ha pins s σ H _ I h) fun v s1 ⟨x, H1, I1, r1, q1⟩ => ?_
  refine thn (hb pins s1 σ H1 _ I1 q1) fun u s2 ⟨y, H2, I2, r2, q2⟩ => ?_
  exact hf v u s2 x y H2 I2 r1 r2 q2

theorem pe_op {op : Operator} {r : R2} (ho : OpR X (binaryOp op) r) (ha : PE X a ta) (hb : PE X b tb) : PE X (.BinOp a op b pos) (tOp r ta tb) := by
  intro pins s σ H Q I h
  exact wpAny_BinOp (binT ha hb I h fun v u s2 x y H2 I2 rx ry q => ho pins s2 σ H2 x y v u Q I2 rx ry q)
theorem pe_un {op : UnaryOp} {r : V → Hp → VK → Prop} (ho : UnR X (unaryOp op) r) (ha : PE X a ta) : PE X (.UnaryOp op a pos) (tUn r ta) := by
  intro pins s σ H Q I h
  exact UnaryOp_ (thn (ha pins s σ H _ I h) fun v s1 ⟨x, H1, I1, r1, q1⟩ => ho pins s1 σ H1 x v Q I1 r1 q1)
/-! ### ints -/
theorem opI {f : Value → Value → Sem Value} {C : Int → Int → Prop} {g : Int → Int → Int}
    (rule : ∀ (i j : Int) (t u : Tok) (s : Shared) (Q : Value → Shared → Prop) (E : Value → Shared → Prop), C i j → Q (.int (g i j) s.toks) { s with toks := s.toks + 1 } → wpAny (model X.prog X.w) X.A (f (.int i t) (.int j u)) Q E s) :
    OpR X f (rI C fun i j => .int (g i j)) := by
  intro pins s σ H x y v u Q I rx ry h
  obtain ⟨i, j, rfl, rfl, hc, q⟩ := h
  obtain ⟨t, rfl⟩ := rx
  obtain ⟨t', rfl⟩ := ry
  exact rule i j t t' s _ _ hc ⟨.int (g i j), H, I.tok _, ⟨_, rfl⟩, q⟩
theorem opI0 {f : Value → Value → Sem Value} {g : Int → Int → Int}
    (rule : ∀ (i j : Int) (t u : Tok) (s : Shared) (Q : Value → Shared → Prop) (E : Value → Shared → Prop), Q (.int (g i j) s.toks) { s with toks := s.toks + 1 } → wpAny (model X.prog X.w) X.A (f (.int i t) (.int j u)) Q E s) :
    OpR X f (rI0 fun i j => .int (g i j)) := by
  intro pins s σ H x y v u Q I rx ry h
  obtain ⟨i, j, rfl, rfl, q⟩ := h
  obtain ⟨t, rfl⟩ := rx
  obtain ⟨t', rfl⟩ := ry
  exact rule i j t t' s _ _ ⟨.int (g i j), H, I.tok _, ⟨_, rfl⟩, q⟩
theorem opB0 {f : Value → Value → Sem Value} {g : Int → Int → Bool}
    (rule : ∀ (i j : Int) (t u : Tok) (s : Shared) (Q : Value → Shared → Prop) (E : Value → Shared → Prop), Q (.bool (g i j)) s → wpAny (model X.prog X.w) X.A (f (.int i t) (.int j u)) Q E s) :
    OpR X f (rI0 fun i j => .bl (g i j)) := by
  intro pins s σ H x y v u Q I rx ry h
  obtain ⟨i, j, rfl, rfl, q⟩ := h
  obtain ⟨t, rfl⟩ := rx
  obtain ⟨t', rfl⟩ := ry
  exact rule i j t t' s _ _ ⟨.bl (g i j), H, I, rfl, q⟩

def CDiv (i j : Int) : Prop := 0 < j ∧ j < 1073741824
def CMul (i j : Int) : Prop := (-(2 ^ 64) < i ∧ i < 2 ^ 64) ∨ (-(2 ^ 64) < j ∧ j < 2 ^ 64)
theorem CMul.ok {i j : Int} (h : CMul i j) : IntMulOk i j := by
  rcases h with ⟨h1, h2⟩ | ⟨h1, h2⟩
  · exact .of_left (intBits_le_64 h1 h2)
  · exact .of_right (intBits_le_64 h1 h2)
theorem op_add : OpR X (binaryOp .Add) (rI0 fun i j => .int (i + j)) := opI0 fun _ _ _ _ _ _ _ q => add_int q
theorem op_sub : OpR X (binaryOp .Sub) (rI0 fun i j => .int (i - j)) := opI0 fun _ _ _ _ _ _ _ q => sub_int q
theorem op_mul : OpR X (binaryOp .Mult) (rI CMul fun i j => .int (i * j)) := opI fun _ _ _ _ _ _ _ hc q => mul_int q hc.ok
/-- // by a positive divisor -/
theorem op_fdiv : OpR X (binaryOp .FloorDiv) (rI CDiv fun i j => .int (i / j)) := opI fun i j _ _ _ _ _ hc q => by
  have h1 : (0 : Int) < j := hc.1
  have h2 : j < 1073741824 := hc.2
  exact floordiv_int (by omega) (by rw [Int.fdiv_eq_ediv_of_nonneg i (by omega)]; exact q) (.inl (PyProof.noPylong_small (by omega)))
/-- % by a positive divisor of any size -/
theorem op_mod : OpR X (binaryOp .Mod) (rI (fun _ j => 0 < j) fun i j => .int (i % j)) := opI fun i j _ _ _ _ _ hc q => by
  have h1 : (0 : Int) < j := hc
  exact mod_int' (by omega) (by rw [Int.fmod_eq_emod_of_nonneg i (by omega)]; exact q)
theorem unI {f : Value → Sem Value} {g : Int → Int}
    (rule : ∀ (i : Int) (t : Tok) (s : Shared) (Q : Value → Shared → Prop) (E : Value → Shared → Prop), Q (.int (g i) s.toks) { s with toks := s.toks + 1 } → wpAny (model X.prog X.w) X.A (f (.int i t)) Q E s) :
    UnR X f (rU fun i => .int (g i)) := by
  intro pins s σ H x v Q I rx h
  obtain ⟨i, rfl, q⟩ := h
  obtain ⟨t, rfl⟩ := rx
  exact rule i t s _ _ ⟨.int (g i), H, I.tok _, ⟨_, rfl⟩, q⟩
theorem un_neg : UnR X (unaryOp .USub) (rU fun i => .int (-i)) := unI fun _ _ _ _ _ q => neg_int q
/-! ### bools among ints: n += (a < b) -/
end

/-! ### comparisons -/
/-- the scalars that == tells apart as data does -/
def scal : V → V → Bool
  | .non, .non => true | .non, .int _ => true | .int _, .non => true | .non, .bl _ => true | .bl _, .non => true | .non, .str _ => true | .str _, .non => true
  | .int _, .int _ => true | .bl _, .bl _ => true | .str _, .str _ => true | .byt _, .byt _ => true
  | .int _, .str _ => true | .str _, .int _ => true | .bl _, .str _ => true | .str _, .bl _ => true
  | _, _ => false
def rEq : R2 := fun x y H Q => scal x y = true ∧ Q (.bl (decide (x = y))) H
def rNe : R2 := fun x y H Q => scal x y = true ∧ Q (.bl (!decide (x = y))) H

theorem dec_int {i j : Int} : decide (V.int i = V.int j) = (i == j) := by
  rw [Bool.eq_iff_iff]
  simp
theorem dec_bl {i j : Bool} : decide (V.bl i = V.bl j) = (i == j) := by
  rw [Bool.eq_iff_iff]
  simp
theorem dec_str {i j : Str} : decide (V.str i = V.str j) = (i == j) := by
  rw [Bool.eq_iff_iff]
  simp
theorem dec_byt {i j : Array UInt8} : decide (V.byt i = V.byt j) = (i.toList == j.toList) := by
  rw [Bool.eq_iff_iff]
  cases i
  cases j
  simp

section
variable {X : Cx} {a b c : Expr} {ta tb tc : TE} {pos : Pos}
theorem fin_bl {pins : List (Addr × Obj)} {σ : St} {H : Hp} {s : Shared} {Q : VK} {k k' : Bool} (I : Inv X pins σ H s) (q : Q (.bl k) H) (e : k = k') : EP X pins σ Q (.bool k') s := by
  subst e
  exact ⟨.bl k, H, I, rfl, q⟩
theorem op_eq : OpR X (compareOp .Eq) rEq := by
  intro pins s σ H x y v u Q I rx ry h
  obtain ⟨hs, q⟩ := h
  cases x with
  | non =>
    cases rx
    cases y with
    | non => cases ry; exact PySem.EqNone.eq_none_none (fin_bl I q (by simp))
    | bl j => cases ry; exact PySem.EqNone.eq_none_bool (fin_bl I q (by simp))
    | int j => obtain ⟨t', rfl⟩ := ry; exact PySem.EqNone.eq_none_int (fin_bl I q (by simp))
    | str j => obtain ⟨t', rfl⟩ := ry; exact PySem.EqNone.eq_none_str (fin_bl I q (by simp))
    | _ => exact absurd (show false = true from hs) Bool.false_ne_true
  | bl i =>
    cases rx
    cases y with
    | non => cases ry; exact PySem.EqNone.eq_bool_none (fin_bl I q (by simp))
    | bl j => cases ry; exact eq_bool (fin_bl I q dec_bl)
    | str j => obtain ⟨t', rfl⟩ := ry; exact PySem.EqMixed.eq_bool_str (fin_bl I q (by simp))
    | _ => exact absurd (show false = true from hs) Bool.false_ne_true
  | int i =>
    obtain ⟨t, rfl⟩ := rx
    cases y with
    | non => cases ry; exact PySem.EqNone.eq_int_none (fin_bl I q (by simp))
    | int j => obtain ⟨t', rfl⟩ := ry; exact eq_int (fin_bl I q dec_int)
    | str j => obtain ⟨t', rfl⟩ := ry; exact PySem.EqMixed.eq_int_str (fin_bl I q (by simp))
    | _ => exact absurd (show false = true from hs) Bool.false_ne_true
  | str i =>
    obtain ⟨t, rfl⟩ := rx
    cases y with
    | non => cases ry; exact PySem.EqNone.eq_str_none (fin_bl I q (by simp))
    | bl j => cases ry; exact PySem.EqMixed.eq_str_bool (fin_bl I q (by simp))
    | int j => obtain ⟨t', rfl⟩ := ry; exact PySem.EqMixed.eq_str_int (fin_bl I q (by simp))
    | str j => obtain ⟨t', rfl⟩ := ry; exact eq_str (fin_bl I q dec_str)
    | _ => exact absurd (show false = true from hs) Bool.false_ne_true
  | byt i =>
    obtain ⟨t, rfl⟩ := rx
    cases y with
    | byt j => obtain ⟨t', rfl⟩ := ry; exact PySem.W.eq_bytes (fin_bl I q dec_byt)
    | _ => exact absurd (show false = true from hs) Bool.false_ne_true
  | _ => cases y <;> exact absurd (show false = true from hs) Bool.false_ne_true
theorem op_ne : OpR X (compareOp .NotEq) rNe := by
  intro pins s σ H x y v u Q I rx ry h
  obtain ⟨hs, q⟩ := h
  cases x with
  | non =>
    cases rx
    cases y with
    | non => cases ry; exact PySem.EqNone.ne_none_none (fin_bl I q (by simp))
    | bl j => cases ry; exact PySem.EqNone.ne_none_bool (fin_bl I q (by simp))
    | int j => obtain ⟨t', rfl⟩ := ry; exact PySem.EqNone.ne_none_int (fin_bl I q (by simp))
    | str j => obtain ⟨t', rfl⟩ := ry; exact PySem.EqNone.ne_none_str (fin_bl I q (by simp))
    | _ => exact absurd (show false = true from hs) Bool.false_ne_true
  | bl i =>
    cases rx
    cases y with
    | non => cases ry; exact PySem.EqNone.ne_bool_none (fin_bl I q (by simp))
    | bl j => cases ry; exact ne_bool (fin_bl I q (congrArg not dec_bl))
    | str j => obtain ⟨t', rfl⟩ := ry; exact PySem.EqMixed.ne_bool_str (fin_bl I q (by simp))
    | _ => exact absurd (show false = true from hs) Bool.false_ne_true
  | int i =>
    obtain ⟨t, rfl⟩ := rx
    cases y with
    | non => cases ry; exact PySem.EqNone.ne_int_none (fin_bl I q (by simp))
    | int j => obtain ⟨t', rfl⟩ := ry; exact ne_int (fin_bl I q (congrArg not dec_int))
    | str j => obtain ⟨t', rfl⟩ := ry; exact PySem.EqMixed.ne_int_str (fin_bl I q (by simp))
    | _ => exact absurd (show false = true from hs) Bool.false_ne_true
  | str i =>
    obtain ⟨t, rfl⟩ := rx
    cases y with
    | non => cases ry; exact PySem.EqNone.ne_str_none (fin_bl I q (by simp))
    | bl j => cases ry; exact PySem.EqMixed.ne_str_bool (fin_bl I q (by simp))
    | int j => obtain ⟨t', rfl⟩ := ry; exact PySem.EqMixed.ne_str_int (fin_bl I q (by simp))
    | str j => obtain ⟨t', rfl⟩ := ry; exact ne_str (fin_bl I q (congrArg not dec_str))
    | _ => exact absurd (show false = true from hs) Bool.false_ne_true
  | byt i =>
    obtain ⟨t, rfl⟩ := rx
    cases y with
    | byt j => obtain ⟨t', rfl⟩ := ry; exact PySem.W.ne_bytes (fin_bl I q (congrArg not dec_byt))
    | _ => exact absurd (show false = true from hs) Bool.false_ne_true
  | _ => cases y <;> exact absurd (show false = true from hs) Bool.false_ne_true

theorem op_lt : OpR X (compareOp .Lt) (rI0 fun i j => .bl (decide (i < j))) := opB0 fun _ _ _ _ _ _ _ q => lt_int q
theorem op_le : OpR X (compareOp .LtE) (rI0 fun i j => .bl (decide (i ≤ j))) := opB0 fun _ _ _ _ _ _ _ q => le_int q
theorem op_gt : OpR X (compareOp .Gt) (rI0 fun i j => .bl (decide (j < i))) := opB0 fun _ _ _ _ _ _ _ q => gt_int q
theorem op_ge : OpR X (compareOp .GtE) (rI0 fun i j => .bl (decide (j ≤ i))) := opB0 fun _ _ _ _ _ _ _ q => ge_int q
/-- is, is not of two objects that are tracked lists or instances -/
def isObj : HO → Bool
  | .lst _ => true
  | .ins _ _ _ => true
  | _ => false
theorem obj_there {pins : List (Addr × Obj)} {s : Shared} {σ : St} {H : Hp} {a : Addr} {o : HO} (I : Inv X pins σ H s) (h : H a = some o) (p : isObj o = true) : ∃ ob, s.heap.get? a = some ob ∧ ob.cls ≠ .type "tuple" := by
  cases o with
  | lst xs =>
    obtain ⟨_, its, n, _, e⟩ : xs.length ≤ sizeLine ∧ ∃ (its : List Value) (n : Nat), Vals xs its ∧ s.heap.get? a = some { cls := .type "list", data := .seq its.toArray n } := I.hok a _ h
    exact ⟨_, e, (by show Value.type "list" ≠ .type "tuple"; decide +kernel)⟩
  | ins C dx fs =>
    have x := I.hok a _ h
    obtain ⟨_, _, _, e, _⟩ := x
    exact ⟨_, e, (by show Value.ref C ≠ .type "tuple"; exact fun z => by cases z)⟩
  | _ => exact absurd (show false = true from p) Bool.false_ne_true
theorem nomark (b : Expr) {op : CmpOp} (h : op ≠ .In := by decide) (h2 : op ≠ .NotIn := by decide) : behindInMarks op b = false := by
  have e1 : (op == CmpOp.In) = false := by cases op <;> first | rfl | exact absurd rfl h
  have e2 : (op == CmpOp.NotIn) = false := by cases op <;> first | rfl | exact absurd rfl h2
  cases b <;> simp [behindInMarks, e1, e2]
/-- a comparison as a value; hm: nomark b, or (for in, not in) by with_unfolding_all rfl -/
theorem pe_cmpR {op : CmpOp} {r : R2} (ho : OpR X (compareOp op) r) (ha : PE X a ta) (hb : PE X b tb) (hm : behindInMarks op b = false) : PE X (.Compare a [op] [b] pos) (tOp r ta tb) := by
  intro pins s σ H Q I h
  exact wpAny_Compare1 (binT ha hb I h fun v u s2 x y H2 I2 rx ry q => ho pins s2 σ H2 x y v u Q I2 rx ry q) hm
/-- a reading of a value as a test -/
def tTest (t : TE) : TT := fun σ H Q => t σ H fun x H' => ∃ k, x = .bl k ∧ Q k H'
theorem pt_cmpR {op : CmpOp} {r : R2} (ho : OpR X (compareOp op) r) (ha : PE X a ta) (hb : PE X b tb) (hm : behindInMarks op b = false) : PT X (.Compare a [op] [b] pos) (tTest (tOp r ta tb)) := by
  intro pins s σ H Q I h
  refine wpAny_isTrue_Compare1 (thn (ha pins s σ H _ I h) fun v s1 ⟨x, H1, I1, r1, q1⟩ => thn (hb pins s1 σ H1 _ I1 q1) fun u s2 ⟨y, H2, I2, r2, q2⟩ =>
    thn (ho pins s2 σ H2 x y v u _ I2 r1 r2 q2) fun c s3 ⟨z, H3, I3, r3, k, e, q3⟩ => ?_) hm
  subst e
  cases r3
  exact wpAny_truthy_bool ⟨H3, I3, q3⟩
/-! ### truth -/
theorem line63 : (sizeLine : Nat) < 2 ^ 63 := by rw [sizeLine_eq]; decide
/-! ### strs and bytes -/
/-! ### scalar builtins, by CallR -/
theorem vals1 {x : V} {us : List Value} (r : Vals [x] us) : ∃ u, us = [u] ∧ RelV x u := by
  cases r with
  | cons r1 r2 => cases r2; exact ⟨_, rfl, r1⟩
theorem vals2 {x y : V} {us : List Value} (r : Vals [x, y] us) : ∃ u w', us = [u, w'] ∧ RelV x u ∧ RelV y w' := by
  cases r with
  | cons r1 r2 =>
    cases r2 with
    | cons r3 r4 => cases r4; exact ⟨_, _, rfl, r1, r3⟩
theorem call_int1 : CallR X (.type "int") (fun xs H Q => (∃ i, xs = [.int i] ∧ Q (.int i) H) ∨ ∃ k, xs = [.bl k] ∧ Q (.int (if k then 1 else 0)) H) := by
  intro pins s σ H xs us Q I r h
  rcases h with ⟨i, rfl, q⟩ | ⟨k, rfl, q⟩
  · obtain ⟨u, rfl, t, rfl⟩ := vals1 r
    exact call_int_int ⟨.int i, H, I, ⟨_, rfl⟩, q⟩
  · obtain ⟨u, rfl, r1⟩ := vals1 r
    cases r1
    exact call_int_bool ⟨.int (if k then 1 else 0), H, I.tok _, ⟨_, rfl⟩, q⟩
end
end L2

namespace L2
open PySem PySem.Spec PyProof.Rows

/-! ### an instance, its attributes a map -/
structure ObjM (h : Heap) (x dx C : Addr) (mA : Str → Option Value) : Prop where
  obj : h.get? x = some (PySem.W.instObj C dx)
  ns : h.Ns1 dx mA
  ne : dx ≠ x

theorem lookIn_ns {h : Heap} {dx : Addr} {mA : Str → Option Value} (n : h.Ns1 dx mA) : ∃ od, h.get? dx = some od ∧ ∀ name, PySem.W.lookIn name od = some (mA name) := by
  obtain ⟨o, es, ep, ho, hd, hk, _, hm⟩ := n
  refine ⟨o, ho, fun name => ?_⟩
  have e := hm name
  unfold nsFind findBy at e
  rw [← Array.find?_toList] at e
  unfold PySem.W.lookIn
  rw [hd]
  dsimp only
  split
  · rename_i y q
    rw [q] at e
    exact congrArg some e
  · rename_i q
    rw [q] at e
    have a : es.toList.any (·.refKey) = false := by
      rw [List.any_eq_false]
      intro y hy
      obtain ⟨z, t, hkey⟩ := hk y (Array.mem_toList_iff.mp hy)
      simp [DictEntry.refKey, hkey]
    have a' : ¬ es.toList.any (·.refKey) = true := by rw [a]; exact Bool.false_ne_true
    rw [if_neg a']
    exact congrArg some e

theorem ObjM.look {h : Heap} {x dx C : Addr} {mA : Str → Option Value} (I : ObjM h x dx C mA) : ∃ od, PySem.W.InstAt h x (PySem.W.instObj C dx) C (some od) ∧ ∀ name, PySem.W.lookIn name od = some (mA name) :=
  let ⟨od, ho, hl⟩ := lookIn_ns I.ns
  ⟨od, ⟨I.obj, rfl, rfl, ho⟩, hl⟩

section
variable {prog : Program} {w : World} {A : Around} {E : Value → Shared → Prop} {s : Shared} {K : PySem.W.Frag} {x dx C f : Addr} {mA : Str → Option Value} {name : Str} {v : Value}

end

/-! ### the attributes as a list of pairs -/
theorem RelO.some_of {v : V} {o : Option Value} (r : RelO (some v) o) : ∃ u, o = some u ∧ RelV v u := by
  cases o with
  | none => exact (show False from r).elim
  | some u => exact ⟨u, rfl, r⟩
section
variable {P : Program} {w : World} {H H' : Hp} {h h' : Heap} {a C dx : Addr} {fs fs' : List (Str × V)}
theorem ins_get (hok : HOk P w H h) (e : H a = some (.ins C dx fs)) : ∃ mA, ObjM h a dx C mA ∧ (∀ f, RelO (fs.lookup f) (mA f)) ∧ PySem.Within mA (fs.map (·.1)) ∧ fs.length ≤ 1000 ∧ H dx = some (.own a) := by
  obtain ⟨d, z, ne, ob, mA, n, r, q⟩ := (show ObjOk P w H h a (.ins C dx fs) from hok a _ e)
  exact ⟨mA, ⟨ob, n, ne⟩, r, q, z, d⟩
end

/-! ### what of the text a class must have -/
structure Cls (K : PySem.W.Frag) (C : Addr) : Prop where
  pg : PySem.W.plainGet K C Str.empty = true
  hd : PySem.W.hasDictIn K C = true
  po : PySem.W.plainOver K C = true
  sa : PySem.W.findIn K (.ref C) "__setattr__" = some (some (.builtin "object.__setattr__"))
theorem Cls.get {K : PySem.W.Frag} {C : Addr} (c : Cls K C) (f : Str) : PySem.W.plainGet K C f = true := c.pg
section
variable {X : Cx} {pins : List (Addr × Obj)} {σ : St} {H : Hp} {s : Shared} {a C dx : Addr} {fs : List (Str × V)} {f : Str} {v : V} {A : Around} {E : Value → Shared → Prop}

end

/-! ### readings and rules -/
section
variable {X : Cx} {o e value : Expr} {f : Str} {pos pos' tpos : Pos} {ta tv : TE}
end

/-! ### isinstance -/
section
variable {X : Cx} {pins : List (Addr × Obj)} {σ : St} {H : Hp} {s : Shared} {A : Around} {E : Value → Shared → Prop} {Q : Value → Shared → Prop} {c : Value} {b : Bool}
/-- the type of a value, as the fragment's deciders take it; for an instance its class -/
inductive TyOf (K : PySem.W.Frag) (H : Hp) : V → Value → Prop where
  | non : TyOf K H .non (.type "NoneType")
  | bl (x : Bool) : TyOf K H (.bl x) (.type "bool")
  | int (i : Int) : TyOf K H (.int i) (.type "int")
  | str (x : Str) : TyOf K H (.str x) (.type "str")
  | flt (x : UInt64) : TyOf K H (.flt x) (.type "float")
  | lst {a : Addr} {xs : List V} (e : H a = some (.lst xs)) : TyOf K H (.ref a) (.type "list")
  | frz {a : Addr} {o : Obj} {xs : List V} (e : H a = some (.frz o (.lst xs))) : TyOf K H (.ref a) (.type "list")
  | tup {a : Addr} {xs : List V} (e : H a = some (.tup xs)) : TyOf K H (.ref a) (.type "tuple")
  | dK {a : Addr} {kvs : List (Key × V)} (e : H a = some (.dK kvs)) : TyOf K H (.ref a) (.type "dict")
  | dT {a : Addr} {kvs : List (List Key × V)} (e : H a = some (.dT kvs)) : TyOf K H (.ref a) (.type "dict")
  | ins {a C dx : Addr} {fs : List (Str × V)} (e : H a = some (.ins C dx fs)) (cl : Cls K C) (ha : PySem.W.findIn K (.ref C) "__class__" = some (some (.builtin "object.__class__")))
      (hn : PySem.W.specialIn K (.builtin "object.__class__") "__get__" = some (some (.builtin "getset_descriptor.__get__"))) (htk : PySem.W.takesIn K (.builtin "object.__class__") = some true)
      (hm : PySem.W.mroIn K C (.type "object") = some true) : TyOf K H (.ref a) (.ref C)
/-- isinstance(x, c) for one class c, a built-in or an own one: kitOne's answer -/
theorem isinst_ok {x : V} {u t : Value} (I : Inv X pins σ H s) (rx : RelV x u) (ty : TyOf X.K H x t) (e : PySem.W.kitOne X.K t c = some b) (h : ∀ tk, Q (.bool b) { s with toks := tk }) :
    wpAny (model X.prog X.w) A (call (.builtin "isinstance") [u, c]) Q E s := by
  cases ty with
  | non => cases (show u = Value.none from rx); exact PySem.W.kia_one PySem.W.kitx_none I.kIn True.intro e (fun z => nomatch z) h
  | bl y => cases (show u = Value.bool y from rx); exact PySem.W.kia_one PySem.W.kitx_bool I.kIn True.intro e (fun z => nomatch z) h
  | int i => obtain ⟨t, q⟩ := (show ∃ t, u = Value.int i t from rx); cases q; exact PySem.W.kia_one PySem.W.kitx_int I.kIn True.intro e (fun z => nomatch z) h
  | str y => obtain ⟨t, q⟩ := (show ∃ t, u = Value.str y t from rx); cases q; exact PySem.W.kia_one PySem.W.kitx_str I.kIn True.intro e (fun z => nomatch z) h
  | flt y => obtain ⟨t, q⟩ := (show ∃ t, u = Value.float y t from rx); cases q; exact PySem.W.kia_one PySem.W.kitx_float I.kIn True.intro e (fun z => nomatch z) h
  | @lst a xs ea =>
    cases (show u = Value.ref a from rx)
    obtain ⟨_, _, n, _, h1⟩ := (show ObjOk X.prog X.w H s.heap a (.lst xs) from I.hok a _ ea)
    exact PySem.W.kia_one PySem.W.kitx_list I.kIn ⟨_, h1, rfl⟩ e (fun z => nomatch z) h
  | @frz a ob xs ea =>
    cases (show u = Value.ref a from rx)
    obtain ⟨_, _, _, n, _, h1⟩ := (show ObjOk X.prog X.w H s.heap a (.frz ob (.lst xs)) from I.hok a _ ea)
    exact PySem.W.kia_one PySem.W.kitx_list I.kIn ⟨_, h1, rfl⟩ e (fun z => nomatch z) h
  | @tup a xs ea =>
    cases (show u = Value.ref a from rx)
    obtain ⟨_, _, _, p⟩ := (show ObjOk X.prog X.w H s.heap a (.tup xs) from I.hok a _ ea)
    obtain ⟨o, h1, h2, _⟩ := p
    exact PySem.W.kia_one PySem.W.kitx_tuple I.kIn ⟨o, h1, h2⟩ e (fun z => nomatch z) h
  | @dK a kvs ea =>
    cases (show u = Value.ref a from rx)
    obtain ⟨_, _, vs, _, p⟩ := (show ObjOk X.prog X.w H s.heap a (.dK kvs) from I.hok a _ ea)
    obtain ⟨o, es, ep, h1, h2, _⟩ := p
    exact PySem.W.kia_one PySem.W.kitx_dict I.kIn ⟨o, h1, h2.1⟩ e (fun z => nomatch z) h
  | @dT a kvs ea =>
    cases (show u = Value.ref a from rx)
    obtain ⟨_, _, xs, _, o, es, ep, h1, h2, _⟩ := (show ObjOk X.prog X.w H s.heap a (.dT kvs) from I.hok a _ ea)
    exact PySem.W.kia_one PySem.W.kitx_dict I.kIn ⟨o, h1, h2.1⟩ e (fun z => nomatch z) h
  | @ins a C dx fs ea cl ha hn htk hm =>
    cases (show u = Value.ref a from rx)
    obtain ⟨mA, O, _⟩ := ins_get I.hok ea
    obtain ⟨od, J, _⟩ := O.look
    exact PySem.W.kia_one (PySem.W.kitx_own (cl.get _) cl.hd ha hn htk hm) I.kIn J e (fun z => nomatch z) h
end
end L2

namespace L2
open PySem PySem.Spec PyProof.Rows

/-! ### room -/
structure Room (k : Nat) (A : Around) : Prop where
  hd : A.handled = none
  dp : A.depth + 3 * k + 5 < recursionLimit
  un : A.units + 16 * k + 200 < cLine
theorem Room.mono {j k : Nat} {A : Around} (r : Room k A) (h : j ≤ k) : Room j A := ⟨r.hd, by have := r.dp; omega, by have := r.un; omega⟩
theorem Room.deeper {k : Nat} {A : Around} (r : Room (k + 1) A) (env : Env) : Room k (A.deeper env) :=
  ⟨r.hd, by have := r.dp; show A.depth + 1 + 3 * k + 5 < _; omega, by have := r.un; show A.units + 3 + 16 * k + 200 < _; omega⟩
theorem Room.depth {k : Nat} {A : Around} (r : Room k A) : A.depth < recursionLimit := by have := r.dp; omega
theorem Room.units {k : Nat} {A : Around} (r : Room k A) : A.units + 64 < cLine := by have := r.un; omega
/-! ### argument lists and displays -/
def tNil : TA := fun _ H Q => Q [] H
def tCons (ta : TE) (tr : TA) : TA := fun σ H Q => ta σ H fun x H1 => tr σ H1 fun xs H2 => Q (x :: xs) H2
section
variable {X : Cx} {e : Expr} {es : List Expr} {te : TE} {t : TA} {pos : Pos}
theorem pa_nil : PA X [] tNil := fun _ _ _ _ H Q I h => Calls.spliced_nil ⟨[], H, I, .nil, h⟩
theorem pa_cons (ha : PE X e te) (hr : PA X es t) (hs : starEach (e :: es) X.env = (false, eval e X.env) :: starEach es X.env := by rfl) : PA X (e :: es) (tCons te t) := by
  intro pos pins s σ H Q I h
  rw [hs]
  show wpAny _ _ (spliced ((false, eval e X.env) :: backTo pos (starEach es X.env))) _ _ s
  refine Calls.spliced_cons (thn (ha pins s σ H _ I h) fun u s1 ⟨x, H1, I1, r1, q1⟩ => ?_)
  exact thn (hr pos pins s1 σ H1 _ I1 q1) fun us s2 ⟨xs, H2, I2, r2, q2⟩ => ⟨x :: xs, H2, I2, .cons r1 r2, q2⟩

/-- a tuple, a list of written items -/
def tTup (t : TA) : TE := fun σ H Q => t σ H fun xs H1 => xs.length ≤ sizeLine ∧ ∀ p, H1 p = none → Q (.ref p) (upd H1 p (.tup xs))
def tLst (t : TA) : TE := fun σ H Q => t σ H fun xs H1 => xs.length ≤ sizeLine ∧ ∀ p, H1 p = none → Q (.ref p) (upd H1 p (.lst xs))
theorem pe_tup {x1} (h : PA X es t) : PE X (.Tuple es x1 pos) (tTup t) := by
  intro pins s σ H Q I hq
  refine wpAny_Tuple_spliced (thn (h pos pins s σ H _ I hq) fun us s1 ⟨xs, H1, I1, r, z, q⟩ => ⟨by rw [← r.length]; exact z, ?_⟩)
  have hf : H1 s1.heap.objs.size = none := I1.hok.fresh (Nat.le_refl _)
  refine ⟨.ref s1.heap.objs.size, upd H1 s1.heap.objs.size (.tup xs), I1.laid (t' := s1.toks) (fun b u e => Heap.get?_push_of_some _ e) (Nat.le_refl _) ?_, rfl, q _ hf⟩
  exact ⟨z, us, r, ⟨_, Heap.get?_push_size _ rfl, rfl, _, rfl⟩⟩
theorem pe_lst (h : PA X es t) : PE X (.List es pos) (tLst t) := by
  intro pins s σ H Q I hq
  refine wpAny_List_spliced (thn (h pos pins s σ H _ I hq) fun us s1 ⟨xs, H1, I1, r, z, q⟩ => ⟨by rw [← r.length]; exact z, ?_⟩)
  have hf : H1 s1.heap.objs.size = none := I1.hok.fresh (Nat.le_refl _)
  refine ⟨.ref s1.heap.objs.size, upd H1 s1.heap.objs.size (.lst xs), I1.laid (t' := s1.toks) (fun b u e => Heap.get?_push_of_some _ e) (Nat.le_refl _) ?_, rfl, q _ hf⟩
  exact ⟨z, us, 0, r, Heap.get?_push_size _ rfl⟩
end

/-! ### what a def promises -/
/-- a def's promise: the bound arguments in the parameters' order, the heap, the wanted end, the wanted exception -/
abbrev Sp := List V → Hp → VK → XK → Prop
/-- how an exception lies behind a call (file 08 gives it): the callers' frames, abstract heap and state ahead of the call, the wish, the exception, the state -/
abbrev CXT := List Env → Hp → Shared → XK → Value → Shared → Prop

/-- the state at a call -/
structure Env0 (P : Program) (w : World) (K : PySem.W.Frag) (mg : Str → Option Value) (base : Heap) (A : Around) (outer : List Env) (s : Shared) (H : Hp) : Prop where
  frames : A.frames = some outer
  mod : Mod K mg base
  bs : ∀ b o, base.get? b = some o → s.heap.get? b = some o ∧ H b = none
  bsz : base.objs.size ≤ s.heap.objs.size
  funs : s.heap.FunFrames base outer
  frf : ∀ b ∈ frs outer, H b = none
  hok : HOk P w H s.heap
  bare : AllBare s.gens
/-- a call's end -/
def CE (outer : List Env) (P : Program) (w : World) (H : Hp) (s : Shared) (Q : VK) (u : Value) (s' : Shared) : Prop :=
  ∃ v H', s'.os = s.os ∧ AllBare s'.gens ∧ Un (frs outer) [] H H' s.heap s'.heap ∧ HOk P w H' s'.heap ∧ RelV v u ∧ Q v H'
def CR (CX : CXT) (outer : List Env) (P : Program) (w : World) (H : Hp) (s : Shared) (Q : VK) (E : XK) (r : Result) (s' : Shared) : Prop :=
  match r with
  | .ok (.ret u) => CE outer P w H s Q u s'
  | .ok _ => False
  | .error e => CX outer H s E e s'
structure FnOk (P : Program) (w : World) (K : PySem.W.Frag) (mg : Str → Option Value) (base : Heap) (CX : CXT) (k : Nat) (f : Addr) (fd : FuncData) (ps : List Str) (sp : Sp) : Prop where
  len : ∀ vs H Q E, sp vs H Q E → vs.length = ps.length
  run : ∀ (A : Around) (outer : List Env) (s : Shared) (H : Hp) (args : Args) (us : List Value) (vs : List V) (Q : VK) (E : XK), Room k A → Env0 P w K mg base A outer s H → BindsTo s fd args (ps.zip us) → Vals vs us → sp vs H Q E →
    codeAny (model P w) A (.call (.ref f) args) (CR CX outer P w H s Q E) s
section
variable {X : Cx} {pins : List (Addr × Obj)} {σ : St} {H : Hp} {s s' : Shared}
/-- from a body: what a callee wants -/
theorem Inv.env0 (I : Inv X pins σ H s) : Env0 X.prog X.w X.K X.mg X.base X.A X.stack s H :=
  ⟨I.ok.frames, I.ok.mod, I.bs, Nat.le_trans I.ok.bsz I.sz, I.stack, I.stkFree, I.hok, I.bare⟩
/-- behind a call -/
theorem Inv.after {Q : VK} {u : Value} (I : Inv X pins σ H s) (h : CE X.stack X.prog X.w H s Q u s') : EP X pins σ Q u s' := by
  obtain ⟨v, H', os, bare, un, hok, r, q⟩ := h
  obtain ⟨hh, g, d, t, os'⟩ := s'
  obtain rfl : os' = s.os := os
  exact ⟨v, H', I.call (h' := hh) (g' := g) (d' := d) (t' := t) (ch := []) un hok bare (fun b z => absurd z (by simp)), r, q⟩
end

/-! ### calls -/
/-- f(..): the written arguments, then the defaults dvs; E: what is wanted of an exception -/
def tCall (sp : Sp) (dvs : List V) (E : XK) (t : TA) : TE := fun σ H Q => t σ H fun vs H1 => sp (vs ++ dvs) H1 Q E
/-- how the parameters are bound: us the positional arguments, kw the keywords' values by name, ds the defaults that fill up -/
def Binds (K : PySem.W.Frag) (fd : FuncData) (ps : List Str) (ds : List Value) : Prop :=
  ∀ (s : Shared) (us : List Value), K.In s.heap → (us ++ ds).length = ps.length → BindsTo s fd ⟨us, []⟩ (ps.zip (us ++ ds))
/-- every parameter is given -/
theorem Binds.all {K : PySem.W.Frag} {fd : FuncData} {ps : List Str} (h : ∀ us : List Value, us.length = ps.length → bindArgs fd ⟨us, []⟩ = pure (ps.zip us)) : Binds K fd ps [] := fun s us _ hl => by
  rw [List.append_nil] at hl ⊢
  exact .of_eq (h us hl)

/-- an exception of a callee reaches what this body wants of exceptions -/
def Passes (CX : CXT) (X : Cx) (E : XK) : Prop := ∀ (pins : List (Addr × Obj)) (σ : St) (H : Hp) (s : Shared) (e : Value) (s' : Shared), Inv X pins σ H s → CX X.stack H s E e s' → X.xe e s'

section
variable {X : Cx} {CX : CXT} {k : Nat} {f C : Addr} {fd : FuncData} {ps : List Str} {sp : Sp} {dvs : List V} {ds : List Value} {E : XK} {x m : Str} {p pos apos : Pos} {e o : Expr} {es : List Expr} {ta : TE} {t : TA}

/-- the callee runs -/
theorem run_fn {pins : List (Addr × Obj)} {σ : St} {H : Hp} {s : Shared} {Q : VK} {us : List Value} {vs : List V} (F : FnOk X.prog X.w X.K X.mg X.base CX k f fd ps sp) (hr : Room k X.A) (hb : Binds X.K fd ps ds) (hd : Vals dvs ds) (hx : Passes CX X E)
    (I : Inv X pins σ H s) (r : Vals vs us) (h : sp (vs ++ dvs) H Q E) : wpAny (model X.prog X.w) X.A (call (.ref f) us) (EP X pins σ Q) X.xe s := by
  have r2 : Vals (vs ++ dvs) (us ++ ds) := r.append hd
  have hl : (us ++ ds).length = ps.length := by rw [← r2.length]; exact F.len _ _ _ _ h
  refine wpAny_call (codeAny_mono (F.run X.A X.stack s H ⟨us, []⟩ (us ++ ds) (vs ++ dvs) Q E hr I.env0 (hb s us I.kIn hl) r2 h) fun r s' hq => ?_)
  cases r with
  | error e => exact hx pins σ H s e s' I hq
  | ok fl =>
    cases fl with
    | ret u => exact I.after hq
    | next => exact False.elim hq
    | brk => exact False.elim hq
    | cont => exact False.elim hq

theorem pe_call (F : FnOk X.prog X.w X.K X.mg X.base CX k f fd ps sp) (hr : Room k X.A) (hg : Gl X x) (hm : X.mg x = some (.ref f)) (hk : PySem.W.keepIn X.K (.ref f) = true) (hb : Binds X.K fd ps ds) (hd : Vals dvs ds) (hx : Passes CX X E)
    (ha : PA X (e :: es) t) (hdb : (x == ("__debug__" : Str)) = false := by decide) (he : starEach (e :: es) X.env = (false, eval e X.env) :: starEach es X.env := by rfl) (hpl : (backTo pos (starEach es X.env)).any (·.1) = false := by rfl) :
    PE X (.Call (.Name x p) (e :: es) [] pos) (tCall sp dvs E t) := by
  intro pins s σ H Q I h
  refine wpAny_Call_Name_kw (ld_glob I hg hm ?_ hdb)
  refine PySem.W.callWith_K (h₀ := X.base) I.ok.mod.kin hk (thn (ha pos pins s σ H _ I h) fun us s1 ⟨vs, H1, I1, r, q⟩ => ⟨I1.kIn, ?_⟩) he hpl
  exact run_fn F hr hb hd hx I1 r q
end

/-! ### keywords -/
section
variable {X : Cx} {CX : CXT} {k : Nat} {f C : Addr} {fd : FuncData} {ps ks : List Str} {sp : Sp} {E : XK} {x m : Str} {p pos apos kpos : Pos} {e o : Expr} {es : List Expr} {kws : List Keyword} {te ta : TE} {t tk : TA} {nm : Option Str}
variable {g : List Value → List Value → List Value} {gV : List V → List V → List V}
end

/-! ### a def's body keeps its promise -/
/-- names: the parameters first -/
structure FnScope (N P : List Str) (sc : Scope) : Prop where
  kind : sc.kind = .function
  co : sc.isCoroutine = false
  gen : sc.isGenerator = false
  nd : N.Nodup
  pre : N.take P.length = P
  par : ∀ x ∈ P, sc.names.lookup x = some .local ∨ sc.names.lookup x = some .cell
  nofree : ∀ y ∈ sc.names, y.2 ≠ .free

theorem bindL_out {kindOf : Str → Option NameKind} {x : Str} : ∀ {binds : List (Str × Value)} {m : Str → Option Value}, (∀ v, (x, v) ∉ binds) → bindL kindOf binds m x = m x
  | [], _, _ => rfl
  | (n, v) :: r, m, h => by
    unfold bindL
    rw [bindL_out fun w hw => h w (List.mem_cons_of_mem _ hw)]
    split
    · have : x ≠ n := by rintro rfl; exact h v List.mem_cons_self
      simp [this]
    · rfl
theorem bindC_out {kindOf : Str → Option NameKind} {x : Str} : ∀ {binds : List (Str × Value)} {m : Str → Option Value}, (∀ v, (x, v) ∉ binds) → bindC kindOf binds m x = m x
  | [], _, _ => rfl
  | (n, v) :: r, m, h => by
    unfold bindC
    rw [bindC_out fun w hw => h w (List.mem_cons_of_mem _ hw)]
    split
    · rfl
    · have : x ≠ n := by rintro rfl; exact h v List.mem_cons_self
      simp [this]
theorem bindL_get {kindOf : Str → Option NameKind} {x : Str} {v : Value} : ∀ {P : List Str} {vs : List Value} {i : Nat} {m : Str → Option Value}, P.Nodup → P[i]? = some x → vs[i]? = some v → kindOf x = some .local →
    bindL kindOf (P.zip vs) m x = some v
  | [], _, _, _, _, h, _, _ => by simp at h
  | _ :: _, [], _, _, _, _, h, _ => by simp at h
  | p :: P, w :: vs, 0, m, nd, h1, h2, hk => by
    simp at h1 h2; subst h1; subst h2
    show bindL kindOf ((p, w) :: P.zip vs) m p = _
    unfold bindL
    rw [bindL_out fun v hv => (List.nodup_cons.mp nd).1 (List.of_mem_zip hv).1, if_pos hk]
    simp
  | p :: P, w :: vs, i + 1, m, nd, h1, h2, hk => by
    show bindL kindOf ((p, w) :: P.zip vs) m x = _
    unfold bindL
    exact bindL_get (i := i) (List.nodup_cons.mp nd).2 (by simpa using h1) (by simpa using h2) hk
theorem bindC_get {kindOf : Str → Option NameKind} {x : Str} {v : Value} : ∀ {P : List Str} {vs : List Value} {i : Nat} {m : Str → Option Value}, P.Nodup → P[i]? = some x → vs[i]? = some v → kindOf x ≠ some .local →
    bindC kindOf (P.zip vs) m x = some v
  | [], _, _, _, _, h, _, _ => by simp at h
  | _ :: _, [], _, _, _, _, h, _ => by simp at h
  | p :: P, w :: vs, 0, m, nd, h1, h2, hk => by
    simp at h1 h2; subst h1; subst h2
    show bindC kindOf ((p, w) :: P.zip vs) m p = _
    unfold bindC
    rw [bindC_out fun v hv => (List.nodup_cons.mp nd).1 (List.of_mem_zip hv).1, if_neg hk]
    simp
  | p :: P, w :: vs, i + 1, m, nd, h1, h2, hk => by
    show bindC kindOf ((p, w) :: P.zip vs) m x = _
    unfold bindC
    exact bindC_get (i := i) (List.nodup_cons.mp nd).2 (by simpa using h1) (by simpa using h2) hk

/-- the names' values at the entry -/
def start (N : List Str) (vs : List V) : St := vs.map some ++ List.replicate (N.length - vs.length) none

/-- the context of a def's body, at its entry; an exception leaves the frame, then lies as CX says -/
def cxOf (CX : CXT) (P : Program) (w : World) (K : PySem.W.Frag) (mg : Str → Option Value) (base : Heap) (N : List Str) (qual : Str) (scope : Scope) (f : Addr) (cd : Value) (A : Around) (outer : List Env) (s : Shared) (H : Hp) (E : XK) : Cx where
  prog := P
  w := w
  K := K
  mg := mg
  base := base
  A := A.deeper (envOfC qual scope s.heap.objs.size f cd)
  N := N
  s₀ := s
  H₀ := H
  env := envOfC qual scope s.heap.objs.size f cd
  outer := outer
  stack := envOfC qual scope s.heap.objs.size f cd :: outer
  ex := []
  calm := true
  fn := fun _ => true
  pn := []
  xe := fun e s' => wpAny (model P w) (A.deeper (envOfC qual scope s.heap.objs.size f cd)) (leaving (envOfC qual scope s.heap.objs.size f cd) e) (fun _ s'' => CX outer H s E e s'') (fun e' s'' => CX outer H s E e' s'') s'

theorem cell_has {sc : Scope} {n : Nat} {x : Str} (h : sc.names.lookup x = some .cell) : ∃ c, (cellsFrom n sc.names []).lookup x = some c := by
  have q := PySem.W.cellsFrom_some sc.names n [] (.inl h)
  exact Option.isSome_iff_exists.mp q

theorem inv_start {CX : CXT} {P : Program} {w : World} {K : PySem.W.Frag} {mg : Str → Option Value} {base : Heap} {N ps : List Str} {qual : Str} {scope : Scope} {f : Addr} {cd : Value} {A : Around} {outer : List Env} {s s1 : Shared} {H : Hp} {E : XK} {us : List Value} {vs : List V}
    (S : FnScope N ps scope) (hd : A.handled = none) (e0 : Env0 P w K mg base A outer s H) (hl : vs.length = ps.length) (r : Vals vs us)
    (x : InCallC s s.heap.objs.size (bindL (envOfC qual scope s.heap.objs.size f cd).kindOf (ps.zip us) fun _ => none) (cellsFrom (s.heap.objs.size + 1) scope.names []) (bindC (envOfC qual scope s.heap.objs.size f cd).kindOf (ps.zip us) fun _ => none) s1) :
    Inv (cxOf CX P w K mg base N qual scope f cd A outer s H E) [] (start N vs) H s1 := by
  have hpl : ps.length ≤ N.length := by have := congrArg List.length S.pre; rw [List.length_take] at this; omega
  obtain ⟨h1, tk, rfl, hk⟩ := x.done
  have noA : ∀ b : Addr, b ∉ (cxOf CX P w K mg base N qual scope f cd A outer s H E).ex := fun b z => absurd (show b ∈ ([] : List Addr) from z) (by simp)
  refine ⟨⟨e0.mod, S.kind, rfl, rfl, Nat.le_refl _, fun y z c h1 h2 => ?_, fun y hy => ?_, fun y c _ h => ?_, fun _ => hd, Around.frames_deeper e0.frames, .inr ⟨rfl, rfl⟩, fun b z => absurd z (noA b), e0.bs, e0.bsz, fun b _ _ => noA b, fun b z => absurd z (noA b), e0.funs, e0.frf⟩,
    rfl, e0.bare, Un.kept hk, ⟨_, x.toInCall.ns, fun i y v h1 h2 h3 => ?_⟩, fun y c h => ⟨_, x.cell y c h⟩, e0.hok.fresh (Nat.le_refl _), fun y c h => ?_, fun p hp => absurd (show p ∈ ([] : List (Addr × Obj)) from hp) (by simp), e0.hok.kept hk, ?_⟩
  · exact name_of_addr x.apart (PySem.mem_of_lookup h1) (PySem.mem_of_lookup h2)
  · have hy : scope.names.lookup y = some .cell ∨ scope.names.lookup y = some .free := hy
    rcases hy with hy | hy
    · exact cell_has hy
    · exact absurd rfl (S.nofree _ (PySem.mem_of_lookup hy))
  · exact Nat.le_of_lt (x.above y c (PySem.mem_of_lookup h))
  · have hi : i < vs.length := by
      unfold start at h2
      by_cases hi : i < vs.length
      · exact hi
      · rw [List.getElem?_append_right (by simpa using hi)] at h2
        rw [List.getElem?_replicate] at h2
        split at h2 <;> cases h2
    have ha : vs[i]? = some v := by
      unfold start at h2
      rw [List.getElem?_append_left (by simpa using hi), List.getElem?_map] at h2
      cases e : vs[i]? with
      | none => rw [e] at h2; cases h2
      | some a => rw [e] at h2; cases h2; rfl
    obtain ⟨u, hu, rv⟩ := r.get ha
    have hp : ps[i]? = some y := by
      rw [← S.pre, List.getElem?_take_of_lt (by omega)]; exact h1
    have ndP : ps.Nodup := by rw [← S.pre]; exact S.nd.sublist (List.take_sublist _ _)
    refine ⟨u, rv, ?_⟩
    rcases S.par y (List.mem_of_getElem? hp) with k | k
    · exact .inl ⟨k, bindL_get ndP hp hu k⟩
    · obtain ⟨c, e⟩ := cell_has (n := s.heap.objs.size + 1) k
      refine .inr ⟨.inl k, c, e, ?_⟩
      have q := x.cell y c e
      rw [bindC_get ndP hp hu (by show scope.names.lookup y ≠ _; rw [k]; decide)] at q
      exact q
  · exact e0.hok.fresh (Nat.le_of_lt (x.above y c (PySem.mem_of_lookup h)))
  · unfold start
    show _ = N.length
    rw [List.length_append, List.length_map, List.length_replicate]
    omega

/-- THE RULE: a def (or a method) of the text, by its body. The body's reading t is chosen for each entry; it is run at the parameters' values -/
theorem fn_of {CX : CXT} {P : Program} {w : World} {K : PySem.W.Frag} {mg : Str → Option Value} {base : Heap} {k : Nat} {f : Addr} {name qual : Str} {params : Arguments} {body : List Stmt} {scope : Scope} {dV kV doc pm cdv ct oc : Value} {an od : Option Addr}
    {osl : Array (Option Value)} {N ps : List Str} {sp : Sp} (lk : K.lookup f = some ⟨oc, od, .func (PySem.W.fnOf name qual params body scope dV kV doc pm an cdv ct), osl⟩) (hcd : PySem.W.codeIn K cdv qual = true) (S : FnScope N ps scope)
    (len : ∀ vs H Q E, sp vs H Q E → vs.length = ps.length)
    (hbody : ∀ (A : Around) (outer : List Env) (s : Shared) (H : Hp) (vs : List V) (Q : VK) (E : XK), Room k (A.deeper (envOfC qual scope s.heap.objs.size f cdv)) → sp vs H Q E →
      ∃ t, PSs (cxOf CX P w K mg base N qual scope f cdv A outer s H E) body t ∧ t { nx := fun _ H' => Q .non H', rt := Q } (start N vs) H) :
    FnOk P w K mg base CX (k + 1) f (PySem.W.fnOf name qual params body scope dV kV doc pm an cdv ct) ps sp := by
  refine ⟨len, fun A outer s H args us vs Q E hr e0 hb r hsp => ?_⟩
  have hl := len _ _ _ _ hsp
  have KX : K.In s.heap := e0.mod.kin.keeps fun b o e => (e0.bs b o e).1
  have lim : s.heap.NoLimit := e0.mod.nolimit.keeps fun b o e => (e0.bs b o e).1
  have hkind : ∀ y ∈ ps.zip us, scope.names.lookup y.1 = some .local ∨ (scope.names.lookup y.1 = some .cell ∧ ((cellsFrom (s.heap.objs.size + 1) scope.names []).lookup y.1).isSome = true) := fun ⟨n, v⟩ hy => by
    rcases S.par n (List.of_mem_zip hy).1 with q | q
    · exact .inl q
    · exact .inr ⟨q, PySem.W.cellsFrom_some _ _ _ (.inl q)⟩
  refine codeAny_call_function hr.depth (KX _ _ lk) rfl S.co S.gen rfl (PySem.W.codeRec_of KX hcd) (hb _ _ _ _ ?_)
  refine wpAny_newFunctionEnv_cells S.kind hkind fun env he s1 x => ?_
  subst he
  refine ⟨lim.keeps x.toInCall.keep, codeAny_func ?_⟩
  obtain ⟨t, ht, hq⟩ := hbody A outer s H vs Q E (hr.deeper _) hsp
  have I : Inv (cxOf CX P w K mg base N qual scope f cdv A outer s H E) [] (start N vs) H s1 := inv_start S hr.hd e0 hl r x
  refine wpAny_mono (ht [] s1 (start N vs) H _ I hq) (fun fl s' hs => ?_) fun e s' hs => hs
  have fin : ∀ {σ' : St} {H' : Hp} {v : V} {u : Value}, Inv (cxOf CX P w K mg base N qual scope f cdv A outer s H E) [] σ' H' s' → RelV v u → Q v H' → CE outer P w H s Q u s' :=
    fun {σ' H' v u} J rv q => ⟨v, H', J.os, J.bare, J.base, J.hok, rv, q⟩
  cases fl with
  | ret u =>
    obtain ⟨v, σ', H', J, rv, q⟩ := hs
    exact fin J rv q
  | next =>
    obtain ⟨σ', H', J, q⟩ := hs
    exact fin (v := V.non) (u := Value.none) J rfl q
  | brk =>
    obtain ⟨_, _, _, q⟩ := hs
    exact False.elim q
  | cont =>
    obtain ⟨_, _, _, q⟩ := hs
    exact False.elim q
end L2

namespace L2
open PySem PySem.Spec PyProof.Rows
section
variable {X : Cx} {x : Str} {p pos : Pos} {e : Expr} {es : List Expr} {t : TA} {id T : String} {r : List V → Hp → VK → Prop}

def tCB (r : List V → Hp → VK → Prop) (t : TA) : TE := fun σ H Q => t σ H fun vs H1 => r vs H1 Q
/-- f(e, ..), f a built-in function -/
theorem pe_callB (hc : CallR X (.builtin id) r) (hg : Gl X x) (hm : X.mg x = none) (hv : bootBuiltins x = some (.builtin id)) (ha : PA X (e :: es) t) (hn : x ≠ "__name__" := by decide) (hdb : (x == ("__debug__" : Str)) = false := by decide)
    (he : starEach (e :: es) X.env = (false, eval e X.env) :: starEach es X.env := by rfl) (hpl : (backTo pos (starEach es X.env)).any (·.1) = false := by rfl) : PE X (.Call (.Name x p) (e :: es) [] pos) (tCB r t) := by
  intro pins s σ H Q I h
  refine wpAny_Call_Name_kw (ld_blt I hg hm hv ?_ hn hdb)
  exact PyProof.Rows.callWith_builtin1 (thn (ha pos pins s σ H _ I h) fun us s1 ⟨vs, H1, I1, r1, q1⟩ => hc pins s1 σ H1 vs us Q I1 r1 q1) he hpl
/-- T(e, ..), T a built-in type -/
theorem pe_callTy (hc : CallR X (.type T) r) (hg : Gl X x) (hm : X.mg x = none) (hv : bootBuiltins x = some (.type T)) (ha : PA X (e :: es) t) (hn : x ≠ "__name__" := by decide) (hdb : (x == ("__debug__" : Str)) = false := by decide)
    (he : starEach (e :: es) X.env = (false, eval e X.env) :: starEach es X.env := by rfl) (hpl : (backTo pos (starEach es X.env)).any (·.1) = false := by rfl) : PE X (.Call (.Name x p) (e :: es) [] pos) (tCB r t) := by
  intro pins s σ H Q I h
  refine wpAny_Call_Name_kw (ld_blt I hg hm hv ?_ hn hdb)
  exact PyProof.Rows.callWith_type1 (thn (ha pos pins s σ H _ I h) fun us s1 ⟨vs, H1, I1, r1, q1⟩ => hc pins s1 σ H1 vs us Q I1 r1 q1) he hpl
end
end L2

namespace HT
open PySem PyProof.Rows

section
open PySem.SeqAt
open PySem.AutoSeq1 (wpAny_loadPart')
open PySem.MeetsSeq PySem.MeetsSeq2 PySem.MeetsSeq3

end

section
variable {prog : Program} {w : World} {A : Around} {E : Value → Shared → Prop} {s : Shared}

/-- t + u, t not empty -/
theorem cat_tup {t b : Addr} {vs ws : List Value} {Q : Value → Shared → Prop} (ht : IsTup s.heap t vs.toArray) (hb : IsTup s.heap b ws.toArray) (hv : vs ≠ [])
    (h1 : ws = [] → Q (.ref t) s) (h2 : ws ≠ [] → Q (.ref s.heap.objs.size) { s with heap := s.heap.push { cls := .type "tuple", data := .seq (vs ++ ws).toArray } })
    (hsz : vs.length + ws.length ≤ sizeLine) : wpAny (model prog w) A (binaryOp .Add (.ref t) (.ref b)) Q E s := by
  obtain ⟨⟨cls, dd, data, sl⟩, ho, hc, n, hd⟩ := id ht
  obtain ⟨⟨cls2, dd2, data2, sl2⟩, ho2, hc2, n2, hd2⟩ := id hb
  simp only at hc hd hc2 hd2
  subst hc hd hc2 hd2
  have e : vs.toArray ++ ws.toArray = (vs ++ ws).toArray := by simp
  by_cases hw : ws = []
  · exact concat_meets ⟨_, ho, rfl⟩ ⟨_, ho2, rfl⟩ noFill_tuple_add seq_tuple_add PySem.F.slot_tuple_add PySem.F.entry_tuple_add (PySem.F.args_tuple_add_2 _ _)
      (tuple_addW1 t b vs.toArray ws.toArray n n2 dd dd2 sl sl2 (by simpa using hv) (by simp [hw])) ⟨ho, ho2, h1 hw⟩
  · refine concat_meets ⟨_, ho, rfl⟩ ⟨_, ho2, rfl⟩ noFill_tuple_add seq_tuple_add PySem.F.slot_tuple_add PySem.F.entry_tuple_add (PySem.F.args_tuple_add_2 _ _)
      (tuple_addW2 t b vs.toArray ws.toArray n n2 dd dd2 sl sl2 (by simpa using hv) (by simpa using hw) (by rw [List.size_toArray, List.size_toArray]; exact hsz)) ⟨ho, ho2, ?_⟩
    rw [e]
    exact h2 hw

/-! ### t[a:b], not the whole -/
/-- a slice's bound as a place among n (d where it is left out) -/
def sIx (n d : Nat) : Option Int → Nat
  | none => d
  | some v => if v < 0 then (v + (n : Int)).toNat else min v.toNat n
theorem sIx_none (n d : Nat) : sIx n d none = d := rfl
theorem sIx_nat (n d k : Nat) : sIx n d (some (k : Int)) = min k n := by
  show (if (k : Int) < 0 then ((k : Int) + (n : Int)).toNat else min (k : Int).toNat n) = min k n
  rw [if_neg (by omega), Int.toNat_natCast]
theorem clip_eq (v : Int) (n d : Nat) : (if v < 0 then max (v + (n : Int)) 0 else min v (n : Int)) = ((sIx n d (some v) : Nat) : Int) := by
  show (if v < 0 then max (v + (n : Int)) 0 else min v (n : Int)) = (((if v < 0 then (v + (n : Int)).toNat else min v.toNat n) : Nat) : Int)
  by_cases hv : v < 0
  · simp only [if_pos hv]; omega
  · simp only [if_neg hv]; omega
end
end HT

namespace L2
open PySem PySem.Spec PyProof.Rows

/-! ### the parts of a slice -/
abbrev TO := St → Hp → (Option Int → Hp → Prop) → Prop
/-- a slice's part (left out, or an int) -/
def PO (X : Cx) (e : Option Expr) (t : TO) : Prop :=
  ∀ (pins : List (Addr × Obj)) (s : Shared) (σ : St) (H : Hp) (Q : Option Int → Hp → Prop), Inv X pins σ H s → t σ H Q →
    wpAny (model X.prog X.w) X.A (evalPart e X.env) (fun u s' => ∃ o H', Inv X pins σ H' s' ∧ IsPart u o ∧ Q o H') X.xe s
def tNoPart : TO := fun _ H Q => Q none H
def tPart (t : TE) : TO := fun σ H Q => t σ H fun x H1 => ∃ i, x = .int i ∧ Q (some i) H1

theorem intsAre_of {ns : List Int} : ∀ {us : List Value}, Vals (ns.map V.int) us → IntsAre us ns := by
  induction ns with
  | nil => intro us r; rw [List.map_nil] at r; cases r; exact .nil
  | cons n ns ih =>
    intro us r
    rw [List.map_cons] at r
    cases r with
    | cons r1 r2 =>
      obtain ⟨t, e⟩ := r1
      subst e
      exact .cons n t (ih r2)

section
variable {X : Cx} {e : Expr} {te : TE} {lo hi : Option Expr} {tl th : TO} {pos p2 : Pos}

theorem po_none : PO X none tNoPart := by
  intro pins s σ H Q I h
  rw [evalPart_none]
  exact wpAny_pure ⟨none, H, I, .none, h⟩
theorem po_some (h : PE X e te) : PO X (some e) (tPart te) := by
  intro pins s σ H Q I hw
  rw [evalPart_some]
  refine thn (h pins s σ H _ I hw) fun u s1 ⟨x, H1, I1, r1, q1⟩ => ?_
  obtain ⟨i, rfl, q⟩ := q1
  obtain ⟨t, rfl⟩ := r1
  exact ⟨some i, H1, I1, .int i t, q⟩

/-- what a slice of a value is, by values: the slice object stands at sl -/
def SlR (X : Cx) (r : V → Option Int → Option Int → Hp → VK → Prop) : Prop :=
  ∀ (pins : List (Addr × Obj)) (s : Shared) (σ : St) (H : Hp) (x : V) (v vl vu : Value) (lo hi : Option Int) (sl : Addr) (Q : VK), Inv X pins σ H s → RelV x v → s.heap.IsSliceOf sl vl vu .none → IsPart vl lo → IsPart vu hi → r x lo hi H Q →
    ∃ T id, typeLookup (.type T) "__getitem__" = pure (some (.builtin id)) ∧ s.TypeIs v T ∧ wpAny (model X.prog X.w) X.A (getItem v (.ref sl)) (EP X pins σ Q) X.xe s
def tSl (r : V → Option Int → Option Int → Hp → VK → Prop) (te : TE) (tl th : TO) : TE := fun σ H Q => te σ H fun x H1 => tl σ H1 fun l H2 => th σ H2 fun u H3 => r x l u H3 Q
/-- a[lo:hi], any a -/
theorem pe_slice {r : V → Option Int → Option Int → Hp → VK → Prop} (hr : SlR X r) (he : PE X e te) (hl : PO X lo tl) (hu : PO X hi th) : PE X (.Subscript e (.Slice lo hi none p2) pos) (tSl r te tl th) := by
  intro pins s σ H Q I h
  refine Subscript_ (thn (he pins s σ H _ I h) fun v s1 ⟨x, H1, I1, r1, q1⟩ => ?_)
  refine wpAny_Slice (thn (hl pins s1 σ H1 _ I1 q1) fun vl s2 ⟨l, H2, I2, pl, q2⟩ => thn (hu pins s2 σ H2 _ I2 q2) fun vu s3 ⟨u, H3, I3, pu, q3⟩ => ?_)
  rw [evalPart_none]
  refine wpAny_pure ?_
  have I4 : Inv X pins σ H3 { s3 with heap := s3.heap.push { cls := .type "slice", data := .fields #[vl, vu, .none] } } := I3.kept (t' := s3.toks) fun b ob q => Heap.get?_push_of_some _ q
  obtain ⟨T, id, hT, ht, hg⟩ := hr pins { s3 with heap := s3.heap.push { cls := .type "slice", data := .fields #[vl, vu, .none] } } σ H3 x v vl vu l u s3.heap.objs.size Q I4 r1 (Heap.IsSliceOf.new ..) pl pu q3
  show wpAny (model X.prog X.w) X.A (subscriptTail e (.Slice lo hi none p2) v (.ref s3.heap.objs.size)) (EP X pins σ Q) X.xe { s3 with heap := s3.heap.push { cls := .type "slice", data := .fields #[vl, vu, .none] } }
  exact tail_any (ops := [.ref s3.heap.objs.size, v]) ht hT hg (by with_unfolding_all rfl)

/-- the items of xs[lo:hi] -/
def cutV (xs : List V) (lo hi : Option Int) : List V := (xs.drop (HT.sIx xs.length 0 lo)).take (HT.sIx xs.length xs.length hi - HT.sIx xs.length 0 lo)
theorem cutV_length (xs : List V) (lo hi : Option Int) : (cutV xs lo hi).length ≤ xs.length := by
  unfold cutV
  rw [List.length_take, List.length_drop]
  omega
/-! ### t < u, t + u -/
/-- t + u, t not empty: u empty gives t itself -/
def rCatT (K : PySem.W.Frag) : R2 := fun x y H Q => ∃ a b xs ys, x = .ref a ∧ y = .ref b ∧ SqT K H a xs ∧ SqT K H b ys ∧ xs ≠ [] ∧ xs.length + ys.length ≤ sizeLine ∧
  (ys = [] → Q (.ref a) H) ∧ (ys ≠ [] → ∀ p, H p = none → Q (.ref p) (upd H p (.tup (xs ++ ys))))
theorem Vals.nil_iff {xs : List V} {us : List Value} (r : Vals xs us) : us = [] ↔ xs = [] := by
  cases r with
  | nil => simp
  | cons _ _ => simp
theorem op_catT : OpR X (binaryOp .Add) (rCatT X.K) := by
  intro pins s σ H x y v u Q I rx ry h
  obtain ⟨a, b, xs, ys, rfl, rfl, ha, hb, hx, hz, q1, q2⟩ := h
  cases rx
  cases ry
  obtain ⟨its, r1, p1, _⟩ := I.tuple ha
  obtain ⟨its2, r2, p2, _⟩ := I.tuple hb
  refine HT.cat_tup p1 p2 (fun z => hx (r1.nil_iff.mp z)) (fun z => ⟨.ref a, H, I, rfl, q1 (r2.nil_iff.mp z)⟩) (fun z => ?_) (by rw [← r1.length, ← r2.length]; exact hz)
  refine ⟨.ref s.heap.objs.size, _, I.laid (t' := s.toks) (o := .tup (xs ++ ys)) (fun b ob q => Heap.get?_push_of_some _ q) (Nat.le_refl _) ?_, rfl, q2 (fun w => z (r2.nil_iff.mpr w)) _ (I.hok.fresh (Nat.le_refl _))⟩
  exact ⟨by rw [List.length_append]; exact hz, _, r1.append r2, IsTup.new _ _⟩
end
end L2

namespace L2
open PySem PySem.Spec PyProof.Rows

/-! ### places -/
/-- the place that an index of any sign means -/
def ixN (n : Nat) (i : Int) : Option Nat := if 0 ≤ i then (if i < n then some i.toNat else none) else if -(n : Int) ≤ i then some (i + n).toNat else none
def atI {α : Type} (xs : List α) (i : Int) : Option α := (ixN xs.length i).bind fun j => xs[j]?
theorem ixN_seq {n : Nat} {i : Int} {j : Nat} (h : ixN n i = some j) : seqIndex? i n = some j ∧ j < n ∧ -(n : Int) ≤ i ∧ i < n := by
  unfold ixN at h
  by_cases h0 : 0 ≤ i
  · rw [if_pos h0] at h
    by_cases h1 : i < n
    · rw [if_pos h1] at h
      have e : i.toNat = j := Option.some.inj h
      exact ⟨by rw [seqIndex_of h0 h1, e], by omega, by omega, h1⟩
    · rw [if_neg h1] at h; cases h
  · rw [if_neg h0] at h
    by_cases h1 : -(n : Int) ≤ i
    · rw [if_pos h1] at h
      have e : (i + n).toNat = j := Option.some.inj h
      exact ⟨by rw [seqIndex_neg (by omega) h1, e], by omega, h1, by omega⟩
    · rw [if_neg h1] at h; cases h
theorem atI_get {α : Type} {xs : List α} {i : Int} {v : α} (h : atI xs i = some v) : ∃ j, seqIndex? i xs.length = some j ∧ xs[j]? = some v ∧ j < xs.length ∧ -(xs.length : Int) ≤ i ∧ i < xs.length := by
  unfold atI at h
  cases e : ixN xs.length i with
  | none => rw [e] at h; cases h
  | some j =>
    rw [e] at h
    obtain ⟨h1, h2, h3, h4⟩ := ixN_seq e
    exact ⟨j, h1, h, h2, h3, h4⟩
theorem atI_nat {α : Type} {xs : List α} {j : Nat} {v : α} (h : xs[j]? = some v) : atI xs (j : Int) = some v := by
  have hj : j < xs.length := (List.getElem?_eq_some_iff.mp h).1
  have e : ixN xs.length (j : Int) = some j := by
    unfold ixN
    rw [if_pos (by omega), if_pos (by omega)]; simp
  unfold atI; rw [e]; exact h
theorem atI_last {α : Type} (xs : List α) (v : α) : atI (xs ++ [v]) (-1) = some v := by
  have hl : (xs ++ [v]).length = xs.length + 1 := by simp
  have e : ixN (xs ++ [v]).length (-1) = some xs.length := by
    unfold ixN
    rw [hl, if_neg (by decide), if_pos (by omega)]
    congr 1
    omega
  unfold atI
  rw [e]
  show (xs ++ [v])[xs.length]? = some v
  simp

/-! ### what may be subscripted -/
/-- what stands as an index of a plain subscript -/
def PlainIx (b : Expr) : Prop := ∀ o i, subscripted b false o i = operate [o, i] (getItem o i)
/-- a subscript by values -/
def IxR (X : Cx) (r : R2) : Prop :=
  ∀ (value slice : Expr) (pins : List (Addr × Obj)) (s : Shared) (σ : St) (H : Hp) (x y : V) (v u : Value) (Q : VK), Inv X pins σ H s → RelV x v → RelV y u → r x y H Q →
    subscripted slice false v u = operate [v, u] (getItem v u) → wpAny (model X.prog X.w) X.A (subscriptTail value slice v u) (EP X pins σ Q) X.xe s
/-- a call of a builtin's method by values: the receiver, the arguments -/
def MtR (X : Cx) (id : String) (r : V → List V → Hp → VK → Prop) : Prop :=
  ∀ (pins : List (Addr × Obj)) (s : Shared) (σ : St) (H : Hp) (x : V) (xs : List V) (v : Value) (us : List Value) (Q : VK), Inv X pins σ H s → RelV x v → Vals xs us → r x xs H Q →
    wpAny (model X.prog X.w) X.A (call (.builtin id) (v :: us)) (EP X pins σ Q) X.xe s
section
variable {X : Cx} {a b : Expr} {ta tb : TE} {pos : Pos}
theorem IxR.or {r r' : R2} (h : IxR X r) (h' : IxR X r') : IxR X (fun x y H Q => r x y H Q ∨ r' x y H Q) := by
  intro value slice pins s σ H x y v u Q I rx ry q hs
  rcases q with q | q
  · exact h value slice pins s σ H x y v u Q I rx ry q hs
  · exact h' value slice pins s σ H x y v u Q I rx ry q hs
/-- a[b] -/
theorem pe_ix {r : R2} (hr : IxR X r) (ha : PE X a ta) (hb : PE X b tb) (hs : PlainIx b) : PE X (.Subscript a b pos) (tOp r ta tb) := by
  intro pins s σ H Q I h
  exact Subscript_ (binT ha hb I h fun v u s2 x y H2 I2 rx ry q => hr a b pins s2 σ H2 x y v u Q I2 rx ry q (hs _ _))

def rIxL (K : PySem.W.Frag) : R2 := fun x y H Q => ∃ p xs i v, x = .ref p ∧ y = .int i ∧ SqL K H p xs ∧ atI xs i = some v ∧ Q v H
def rIxT (K : PySem.W.Frag) : R2 := fun x y H Q => ∃ p xs i v, x = .ref p ∧ y = .int i ∧ SqT K H p xs ∧ atI xs i = some v ∧ Q v H
def rIxS : R2 := fun x y H Q => ∃ z i c, x = .str z ∧ y = .int i ∧ z.length ≤ sizeLine ∧ atI z.cps.toList i = some c ∧ Q (.str ⟨#[c]⟩) H
theorem ix_list : IxR X (rIxL X.K) := by
  intro value slice pins s σ H x y v u Q I rx ry h hs
  obtain ⟨p, xs, i, z, rfl, rfl, hq, he, q⟩ := h
  cases rx
  obtain ⟨t, rfl⟩ := ry
  obtain ⟨its, r, pl, hz⟩ := I.list hq
  obtain ⟨j, h1, h2, h3, h4, h5⟩ := atI_get he
  obtain ⟨w, ew, rw'⟩ := r.get h2
  have hl := r.length
  have hn := line63
  have fin : EP X pins σ Q w s := ⟨z, H, I, rw', q⟩
  by_cases h0 : 0 ≤ i
  · have hj : i.toNat = j := by
      rw [seqIndex_of h0 h5] at h1
      exact Option.some.inj h1
    exact item_listR pl.isList h0 (by omega) (by rw [hj]; simpa using ew) fin hs
  · have hj : (i + (its.toArray.size : Int)).toNat = j := by
      rw [seqIndex_neg (by omega) h4] at h1
      rw [List.size_toArray, ← hl]
      exact Option.some.inj h1
    exact subscriptTail_builtinR (x := w) pl.isList.typeIs slot_list_getitem.lookup
      (wpAny_getItem_list_neg (Q := fun r s' => r = w ∧ EP X pins σ Q r s') pl.isList (by omega) (by rw [List.size_toArray] <;> omega) (by omega) (by rw [hj]; simpa using ew) ⟨rfl, fin⟩) hs
theorem ix_tup : IxR X (rIxT X.K) := by
  intro value slice pins s σ H x y v u Q I rx ry h hs
  obtain ⟨p, xs, i, z, rfl, rfl, hq, he, q⟩ := h
  cases rx
  obtain ⟨t, rfl⟩ := ry
  obtain ⟨its, r, pl, hz⟩ := I.tuple hq
  obtain ⟨j, h1, h2, h3, h4, h5⟩ := atI_get he
  obtain ⟨w, ew, rw'⟩ := r.get h2
  have hl := r.length
  have hn := line63
  have fin : EP X pins σ Q w s := ⟨z, H, I, rw', q⟩
  exact subscriptTail_builtinR (x := w) pl.typeIs slot_tuple_getitem.lookup
    (getItem_tuple (j := j) (Q := fun r s' => r = w ∧ EP X pins σ Q r s') pl (by omega) (by omega) (by rw [List.size_toArray, ← hl]; exact h1) (by simpa using ew) ⟨rfl, fin⟩) hs
theorem ix_str : IxR X rIxS := by
  intro value slice pins s σ H x y v u Q I rx ry h hs
  obtain ⟨z, i, c, rfl, rfl, hz, he, q⟩ := h
  obtain ⟨t, rfl⟩ := rx
  obtain ⟨t', rfl⟩ := ry
  obtain ⟨j, h1, h2, h3, h4, h5⟩ := atI_get he
  have hl : z.cps.toList.length = z.length := by simp [Str.length]
  rw [hl] at h1 h4 h5
  have hn := line63
  exact tail_any (typeIs_str s z t) slot_str_getitem.lookup (getItem_str (c := c) (by
    have e1 : decide (i < -(2 ^ 63 : Int)) = false := decide_eq_false (by omega)
    have e2 : decide (i ≥ 2 ^ 63) = false := decide_eq_false (by omega)
    rw [e1, e2, Bool.or_false]) (by rw [h1]; simpa using h2) ⟨.str ⟨#[c]⟩, H, I.tok _, ⟨_, rfl⟩, q⟩) hs
/-- list, tuple or str -/
def rIx (K : PySem.W.Frag) : R2 := fun x y H Q => rIxL K x y H Q ∨ rIxT K x y H Q ∨ rIxS x y H Q
theorem ix_seq : IxR X (rIx X.K) := ix_list.or (ix_tup.or ix_str)

/-! ### xs[i] = v, any sign -/
/-- the list's object behind a store -/
theorem mapSeq_set (its : List Value) (n j : Nat) (u : Value) : Obj.mapSeq (·.setIfInBounds j u) { cls := .type "list", data := .seq its.toArray n } = { cls := .type "list", data := .seq (its.set j u).toArray n } := by
  simp [Obj.mapSeq]
theorem Inv.lst {pins : List (Addr × Obj)} {σ : St} {H : Hp} {s : Shared} {p : Addr} {xs : List V} (I : Inv X pins σ H s) (h : H p = some (.lst xs)) :
    ∃ (its : List Value) (n : Nat), Vals xs its ∧ s.heap.get? p = some { cls := .type "list", data := .seq its.toArray n } ∧ xs.length ≤ sizeLine := by
  obtain ⟨z, its, n, r, e⟩ := I.hok p _ h
  exact ⟨its, n, r, e, z⟩
/-- the list at p is written by an update of its object -/
theorem Inv.lstUpd {pins : List (Addr × Obj)} {σ : St} {H : Hp} {s : Shared} {p : Addr} {xs ys : List V} {its its' : List Value} {n n' : Nat} {f : Obj → Obj} (I : Inv X pins σ H s) (h : H p = some (.lst xs))
    (ho : s.heap.get? p = some { cls := .type "list", data := .seq its.toArray n }) (hf : f { cls := .type "list", data := .seq its.toArray n } = { cls := .type "list", data := .seq its'.toArray n' }) (r : Vals ys its') (hz : ys.length ≤ sizeLine) (t : Nat) :
    Inv X pins σ (upd H p (.lst ys)) { s with heap := s.heap.update p f, toks := t } := by
  have e : (s.heap.update p f).get? p = some { cls := .type "list", data := .seq its'.toArray n' } := by
    rw [Heap.get?_update_self f ho (by rw [hf] <;> rfl), hf]
  refine I.write (x := p) (e := p) (by rw [h]; trivial) (.inl rfl) (fun b u hb q => (Heap.get?_update_other _ _ (Ne.symm hb)).trans q) ⟨_, e⟩ ?_
  exact ⟨hz, its', n', r, e⟩
def rSetL : V → V → V → Hp → (Hp → Prop) → Prop := fun o i v H Q => ∃ p xs k j, o = .ref p ∧ i = .int k ∧ H p = some (.lst xs) ∧ ixN xs.length k = some j ∧ Q (upd H p (.lst (xs.set j v)))
theorem set_list : PSet X rSetL := by
  intro pins s σ H o i v ov iv u Q I ro ri rv h
  obtain ⟨p, xs, k, j, rfl, rfl, hp, hj, q⟩ := h
  cases ro
  obtain ⟨t, rfl⟩ := ri
  obtain ⟨its, n, r, ho, hz⟩ := I.lst hp
  obtain ⟨h1, h2, h3, h4⟩ := ixN_seq hj
  have hl := r.length
  have hn := line63
  have I' : Inv X pins σ (upd H p (.lst (xs.set j v))) { s with heap := s.heap.update p (Obj.mapSeq (·.setIfInBounds j u)) } :=
    I.lstUpd hp ho (mapSeq_set its n j u) (r.set rv j) (by rw [List.length_set]; exact hz) s.toks
  by_cases h0 : 0 ≤ k
  · have hk : k.toNat = j := by
      rw [seqIndex_of h0 h4] at h1
      exact Option.some.inj h1
    exact PySem.W.ki_setAt ho h0 (by omega) (by rw [List.size_toArray, ← hl]; exact h4) (by rw [hk]; exact ⟨_, I', q⟩)
  · have hk : (k + (its.toArray.size : Int)).toNat = j := by
      rw [seqIndex_neg (by omega) h3] at h1
      rw [List.size_toArray, ← hl]
      exact Option.some.inj h1
    exact PySem.W.ki_setBack ho (by omega) (by rw [List.size_toArray, ← hl]; exact h3) (by omega) (by rw [hk]; exact ⟨_, I', q⟩)

/-! ### slices -/
theorem slice_bounds (lo hi : Option Int) (n : Nat) : (sliceBounds lo hi none n).1 = ((HT.sIx n 0 lo : Nat) : Int) ∧ (sliceBounds lo hi none n).2.1 = ((HT.sIx n n hi : Nat) : Int) ∧ (sliceBounds lo hi none n).2.2 = 1 := by
  refine ⟨?_, ?_, rfl⟩
  · cases lo with
    | none => simp [sliceBounds, HT.sIx]
    | some i =>
      simp only [sliceBounds, HT.sIx, Option.getD_none, show (1 : Int) > 0 by decide, if_true]
      by_cases h : i < 0
      · simp only [h, if_true] <;> omega
      · simp only [h, if_false] <;> omega
  · cases hi with
    | none => simp [sliceBounds, HT.sIx]
    | some i =>
      simp only [sliceBounds, HT.sIx, Option.getD_none, show (1 : Int) > 0 by decide, if_true]
      by_cases h : i < 0
      · simp only [h, if_true] <;> omega
      · simp only [h, if_false] <;> omega
theorem slicePick_cut (its : List Value) (lo hi : Option Int) : slicePick its.toArray lo hi none = ((its.drop (HT.sIx its.length 0 lo)).take (HT.sIx its.length its.length hi - HT.sIx its.length 0 lo)).toArray := by
  obtain ⟨h1, h2, h3⟩ := slice_bounds lo hi its.toArray.size
  unfold slicePick
  rw [h1, h2, h3]
  simp only [sliceRange_one, pick_run, List.size_toArray] <;> rfl
/-- xs[lo:hi] of a list: a new list -/
def rSlL (K : PySem.W.Frag) : V → Option Int → Option Int → Hp → VK → Prop := fun x lo hi H Q => ∃ a xs, x = .ref a ∧ SqL K H a xs ∧ ∀ p, H p = none → Q (.ref p) (upd H p (.lst (cutV xs lo hi)))
theorem sl_list : SlR X (rSlL X.K) := by
  intro pins s σ H x v vl vu lo hi sl Q I rx hs pl pu h
  obtain ⟨a, xs, rfl, hx, q⟩ := h
  cases rx
  obtain ⟨its, r, ht, hz⟩ := I.list hx
  have hlen := r.length
  refine ⟨"list", _, slot_list_getitem.lookup, ht.isList.typeIs, ?_⟩
  refine wpAny_getItem_list_slice ht.isList hs pl pu .none (by simp) ?_ (by rw [List.size_toArray] <;> omega)
  rw [slicePick_cut, ← hlen]
  refine ⟨.ref s.heap.objs.size, _, I.laid (t' := s.toks) (o := .lst (cutV xs lo hi)) (fun b ob q => Heap.get?_push_of_some _ q) (Nat.le_refl _) ?_, rfl, q _ (I.hok.fresh (Nat.le_refl _))⟩
  exact ⟨Nat.le_trans (cutV_length xs lo hi) hz, _, 0, (r.drop (HT.sIx xs.length 0 lo)).take (HT.sIx xs.length xs.length hi - HT.sIx xs.length 0 lo), Heap.get?_push_size _ rfl⟩

/-! ### in, not in: flat items -/
/-! ### len, list(x), tuple(x) of any list or tuple that is read -/
theorem call_len_seq : CallR X (.builtin "len") (fun xs H Q => ∃ p ys, xs = [.ref p] ∧ (SqL X.K H p ys ∨ SqT X.K H p ys) ∧ Q (.int ys.length) H) := by
  intro pins s σ H xs us Q I r h
  obtain ⟨p, ys, rfl, hq, q⟩ := h
  obtain ⟨u, rfl, rx⟩ := vals1 r
  cases rx
  have hn := line63
  rcases hq with hq | hq
  · obtain ⟨its, r', pl, hz⟩ := I.list hq
    have hlen := r'.length
    exact Calls.call_len_list pl.isList (by simp only [List.size_toArray] <;> omega) ⟨.int ys.length, H, I.tok _, ⟨s.toks + 1, by rw [List.size_toArray, hlen]⟩, q⟩
  · obtain ⟨its, r', pl, hz⟩ := I.tuple hq
    have hlen := r'.length
    exact len_tuple pl (by simp only [List.size_toArray] <;> omega) ⟨.int ys.length, H, I.tok _, ⟨s.toks + 1, by rw [List.size_toArray, hlen]⟩, q⟩
theorem CallR.or {f : Value} {r r' : List V → Hp → VK → Prop} (h : CallR X f r) (h' : CallR X f r') : CallR X f (fun xs H Q => r xs H Q ∨ r' xs H Q) := by
  intro pins s σ H xs us Q I rs q
  rcases q with q | q
  · exact h pins s σ H xs us Q I rs q
  · exact h' pins s σ H xs us Q I rs q
theorem call_list_of : CallR X (.type "list") (fun xs H Q => ∃ p ys, xs = [.ref p] ∧ (SqL X.K H p ys ∨ SqT X.K H p ys) ∧ ∀ l, H l = none → Q (.ref l) (upd H l (.lst ys))) := by
  intro pins s σ H xs us Q I r h
  obtain ⟨p, ys, rfl, hq, q⟩ := h
  obtain ⟨u, rfl, rx⟩ := vals1 r
  cases rx
  have fin : ∀ (its : List Value), Vals ys its → ys.length ≤ sizeLine → ∀ (h' : Heap) (c' : Nat), (∀ b o', s.heap.get? b = some o' → h'.get? b = some o') →
      h'.get? s.heap.objs.size = some { cls := .type "list", dict := none, data := .seq its.toArray c', slots := #[] } → EP X pins σ Q (.ref s.heap.objs.size) { s with heap := h' } := fun its r' hz h' c' kp e =>
    ⟨.ref s.heap.objs.size, _, I.laid (t' := s.toks) kp (Nat.le_refl _) (show ObjOk X.prog X.w _ h' _ (.lst ys) from ⟨hz, its, c', r', e⟩), rfl, q _ (I.hok.fresh (Nat.le_refl _))⟩
  rcases hq with hq | hq
  · obtain ⟨its, r', pl, hz⟩ := I.list hq
    have hlen := r'.length
    obtain ⟨o, ho, hc, n, hd⟩ := pl.isList
    exact call_list_seq p (.inl rfl) ho hc hd (fun h' c' kp e => fin its r' hz h' c' kp e) (by simp only [List.size_toArray] <;> omega)
  · obtain ⟨its, r', pl, hz⟩ := I.tuple hq
    have hlen := r'.length
    obtain ⟨o, ho, hc, n, hd⟩ := pl
    exact call_list_seq p (.inr rfl) ho hc hd (fun h' c' kp e => fin its r' hz h' c' kp e) (by simp only [List.size_toArray] <;> omega)
/-! ### the call of a builtin's method: o.m(..) -/
/-- the value is of that builtin type -/
def tyV (K : PySem.W.Frag) (T : String) (x : V) (H : Hp) : Prop := match x with
  | .str _ => T = "str"
  | .int _ => T = "int"
  | .ref p => (T = "list" ∧ ∃ xs, SqL K H p xs) ∨ (T = "tuple" ∧ ∃ o, K.lookup p = some o ∧ o.cls = .type "tuple" ∧ o.dict = none) ∨
      (T = "dict" ∧ ((∃ kvs, H p = some (.dK kvs)) ∨ ∃ kvs, H p = some (.dT kvs))) ∨ (T = "set" ∧ ∃ S n, H p = some (.set S n))
  | _ => False
theorem tyV_is {pins : List (Addr × Obj)} {σ : St} {H : Hp} {s : Shared} {T : String} {x : V} {v : Value} (I : Inv X pins σ H s) (r : RelV x v) (ty : tyV X.K T x H) :
    s.TypeIs v T ∧ ∀ a, v = .ref a → ∃ ob, s.heap.get? a = some ob ∧ ob.dict = none := by
  cases x with
  | str z =>
    obtain ⟨t, rfl⟩ := r
    cases (show T = "str" from ty)
    exact ⟨typeIs_str s z t, fun _ e => nomatch e⟩
  | int i =>
    obtain ⟨t, rfl⟩ := r
    cases (show T = "int" from ty)
    exact ⟨typeIs_int s i t, fun _ e => nomatch e⟩
  | ref p =>
    cases r
    rcases ty with ⟨rfl, xs, hq⟩ | ⟨rfl, o, hk, hc, hd⟩ | ⟨rfl, hk⟩ | ⟨rfl, S, n, hk⟩
    · obtain ⟨its, _, pl, _⟩ := I.list hq
      refine ⟨pl.isList.typeIs, fun a e => ?_⟩
      cases e
      obtain ⟨o, n, e, c, hd, _⟩ := pl
      exact ⟨o, e, hd⟩
    · refine ⟨⟨o, I.kIn p o hk, hc⟩, fun a e => ?_⟩
      cases e
      exact ⟨o, I.kIn _ o hk, hd⟩
    · have z : ∃ o, s.heap.get? p = some o ∧ o.ExactDict := by
        rcases hk with ⟨kvs, hk⟩ | ⟨kvs, hk⟩
        · obtain ⟨_, _, _, _, o, _, _, e, ex, _⟩ := I.hok p _ hk
          exact ⟨o, e, ex⟩
        · obtain ⟨_, _, _, _, o, _, _, e, ex, _⟩ := I.hok p _ hk
          exact ⟨o, e, ex⟩
      obtain ⟨o, e, ex⟩ := z
      refine ⟨⟨o, e, ex.1⟩, fun a e2 => ?_⟩
      cases e2
      exact ⟨o, e, ex.2.1⟩
    · obtain ⟨o, _, _, _, e, ex, _⟩ := I.hok p _ hk
      refine ⟨⟨o, e, ex.1⟩, fun a e2 => ?_⟩
      cases e2
      exact ⟨o, e, ex.2.1⟩
  | _ => exact False.elim ty
def tBM0 (K : PySem.W.Frag) (T : String) (r : V → List V → Hp → VK → Prop) (to : TE) : TE := fun σ H Q => to σ H fun x H1 => tyV K T x H1 ∧ r x [] H1 Q
def tBM (K : PySem.W.Frag) (T : String) (r : V → List V → Hp → VK → Prop) (to : TE) (t : TA) : TE := fun σ H Q => to σ H fun x H1 => tyV K T x H1 ∧ t σ H1 fun xs H2 => r x xs H2 Q
variable {o e : Expr} {es : List Expr} {to : TE} {t : TA} {name : Str} {apos cpos : Pos} {T id : String} {r : V → List V → Hp → VK → Prop}
theorem pe_bm0 (pa : PlainAttrs T) (slot : Slot T name id) (hty : typeOf (.builtin id) = pure (.type "method_descriptor")) (hm : MtR X id r) (ho : PE X o to)
    (hbase : attributeBase o name X.env (eval o X.env) = eval o X.env := by rfl) (hline : (apos.endLine == cpos.line) = true := by rfl) : PE X (.Call (.Attribute o name apos) [] [] cpos) (tBM0 X.K T r to) := by
  intro pins s σ H Q I h
  refine wpAny_Call_method0_late hbase hline (thn (ho pins s σ H _ I h) fun v s1 ⟨x, H1, I1, r1, ty, q1⟩ => ?_)
  obtain ⟨h1, h2⟩ := tyV_is I1 r1 ty
  exact ⟨T, id, pa, slot, hty, h1, h2, Calls.callWith_builtin rfl (PySem.evalArgs_none (hm pins s1 σ H1 x [] v [] Q I1 r1 .nil q1))⟩
theorem pe_bm (pa : PlainAttrs T) (slot : Slot T name id) (hty : typeOf (.builtin id) = pure (.type "method_descriptor")) (hm : MtR X id r) (ho : PE X o to) (ha : PA X (e :: es) t)
    (hbase : attributeBase o name X.env (eval o X.env) = eval o X.env := by rfl)
    (hfew : ((backTo cpos (starEach (e :: es) X.env)).all (fun x => !x.1) && (backToKw cpos (keywordEach [] X.env)).all (fun x => x.1.isSome)
      && decide ((e :: es).length + ([] : List Keyword).length + (if ([] : List Keyword).isEmpty then 0 else 1) < 30)) = true := by rfl)
    (hline : (apos.endLine == cpos.line) = true := by rfl) (hs : starEach (e :: es) X.env = (false, eval e X.env) :: starEach es X.env := by rfl) (hplain : (backTo cpos (starEach es X.env)).any (·.1) = false := by rfl) :
    PE X (.Call (.Attribute o name apos) (e :: es) [] cpos) (tBM X.K T r to t) := by
  intro pins s σ H Q I h
  refine wpAny_Call_method_late hbase hfew hline rfl (thn (ho pins s σ H _ I h) fun v s1 ⟨x, H1, I1, r1, ty, q1⟩ => ?_)
  obtain ⟨h1, h2⟩ := tyV_is I1 r1 ty
  refine ⟨T, id, pa, slot, hty, h1, h2, ?_⟩
  have hA := ha cpos pins s1 σ H1 _ I1 q1
  rw [hs] at hA ⊢
  refine Calls.callWith_builtin (by show (false || (backTo cpos (starEach es X.env)).any (·.1)) = false; rw [hplain] <;> rfl) (Calls.evalArgs_plain ?_)
  exact thn hA fun us s2 ⟨vs, H2, I2, r2, q2⟩ => hm pins s2 σ H2 x vs v us Q I2 r1 r2 q2
/- xs.append(e), list.index on a module's tuple .. are MtR facts of 06m -/
end
end L2

namespace L2
open PySem PySem.Spec PyProof.Rows

def MtM (X : Cx) (id : String) (r : V → List V → Hp → VK → Prop) : Prop :=
  ∀ (pins : List (Addr × Obj)) (s : Shared) (σ : St) (H : Hp) (x : V) (xs : List V) (v : Value) (us : List Value) (Q : VK), Inv X pins σ H s → RelV x v → Vals xs us → r x xs H Q →
    wpAny (model X.prog X.w) X.A (call (.builtin id) (v :: us)) (EP X pins σ Q) X.xe s

/-! ### lists of values -/
theorem Vals.one : ∀ {x : V} {us : List Value}, Vals [x] us → ∃ u, us = [u] ∧ RelV x u
  | _, _, .cons r .nil => ⟨_, rfl, r⟩
theorem Vals.zero : ∀ {us : List Value}, Vals [] us → us = []
  | _, .nil => rfl
theorem Vals.dropLast {xs : List V} {us : List Value} (h : Vals xs us) : Vals xs.dropLast us.dropLast := by
  induction h with
  | nil => exact .nil
  | cons r t ih =>
    cases t with
    | nil => exact .nil
    | cons q t' => exact .cons r ih
theorem Vals.rep {xs : List V} {us : List Value} (h : Vals xs us) : ∀ k : Nat, Vals (List.replicate k xs).flatten (List.replicate k us).flatten
  | 0 => .nil
  | k + 1 => by
    rw [List.replicate_succ, List.replicate_succ, List.flatten_cons, List.flatten_cons]
    exact Vals.append h (Vals.rep h k)
theorem erase_last {α : Type} (l : List α) : l.eraseIdx (l.length - 1) = l.dropLast := by
  induction l with
  | nil => rfl
  | cons a r ih =>
    cases r with
    | nil => rfl
    | cons b r =>
      have e : (a :: b :: r).length - 1 = ((b :: r).length - 1) + 1 := by
        have h1 : (a :: b :: r).length = r.length + 2 := rfl
        have h2 : (b :: r).length = r.length + 1 := rfl
        omega
      rw [e, List.eraseIdx_cons_succ, ih]
      all_goals rfl
theorem foldl_rep (its : List Value) : ∀ (k : Nat) (acc : List Value),
    List.foldl (fun x1 x2 => x1 ++ x2) acc.toArray (List.replicate k its.toArray) = (acc ++ (List.replicate k its).flatten).toArray
  | 0, acc => by simp
  | k + 1, acc => by
    have e : acc.toArray ++ its.toArray = (acc ++ its).toArray := by simp
    have e2 : (acc ++ its) ++ (List.replicate k its).flatten = acc ++ (List.replicate (k + 1) its).flatten := by
      rw [List.replicate_succ, List.flatten_cons, List.append_assoc]
    rw [← e2, ← foldl_rep its k (acc ++ its), ← e, List.replicate_succ, List.foldl_cons]

section
variable {X : Cx} {pins : List (Addr × Obj)} {σ : St} {H : Hp} {s : Shared} {l b : Addr} {xs ys zs : List V}

/-! ### the two steps: a tracked list is rewritten, a new list is laid -/
theorem Inv.lset {its its' : List Value} {n : Nat} {f : Array Value → Array Value} {t' : Nat} (I : Inv X pins σ H s) (hH : H l = some (.lst xs))
    (e : s.heap.get? l = some { cls := .type "list", data := .seq its.toArray n }) (hf : f its.toArray = its'.toArray) (hv : Vals ys its') (hz : ys.length ≤ sizeLine) :
    Inv X pins σ (upd H l (.lst ys)) { s with heap := s.heap.update l (Obj.mapSeq f), toks := t' } := by
  have q := PySem.IsL.update e f
  rw [hf] at q
  refine I.write (x := l) (e := l) (by rw [hH]; exact trivial) (.inl rfl) (fun b' u hb hu => (Heap.get?_update_other s.heap (Obj.mapSeq f) (Ne.symm hb)).trans hu) ⟨_, q⟩ ?_
  exact ⟨hz, its', _, hv, q⟩
theorem Inv.lnew {its : List Value} {t' : Nat} (I : Inv X pins σ H s) (hv : Vals ys its) (hz : ys.length ≤ sizeLine) :
    Inv X pins σ (upd H s.heap.objs.size (.lst ys)) { s with heap := s.heap.push { cls := .type "list", data := .seq its.toArray }, toks := t' } :=
  I.laid (fun _ _ q => Heap.get?_push_of_some _ q) (Nat.le_refl _) ⟨hz, its, 0, hv, Heap.get?_push_size _ rfl⟩
theorem Inv.fresh (I : Inv X pins σ H s) : H s.heap.objs.size = none := I.hok.fresh (Nat.le_refl _)
theorem Inv.lstM (I : Inv X pins σ H s) (hH : H l = some (.lst xs)) : xs.length ≤ sizeLine ∧ ∃ (its : List Value) (n : Nat), Vals xs its ∧ xs.length = its.length ∧ s.heap.get? l = some { cls := .type "list", data := .seq its.toArray n } := by
  obtain ⟨z, its, n, r, e⟩ := I.hok l _ hH
  exact ⟨z, its, n, r, r.length, e⟩

theorem notLongL {n : Nat} (h : n ≤ sizeLine) : Builtin.List.listTooLong n = false := by
  unfold Builtin.List.listTooLong
  exact decide_eq_false (by omega)
end

section
variable {X : Cx}

/-! ### methods -/
def rAppend : V → List V → Hp → VK → Prop := fun x vs H Q => ∃ l xs y, x = .ref l ∧ vs = [y] ∧ H l = some (.lst xs) ∧ xs.length < sizeLine ∧ Q .non (upd H l (.lst (xs ++ [y])))
theorem mt_append : MtM X "list.append" rAppend := by
  intro pins s σ H x vs v us Q I rx rv h
  obtain ⟨l, xs, y, rfl, rfl, hH, hz, q⟩ := h
  cases rx
  obtain ⟨u, rfl, ru⟩ := rv.one
  obtain ⟨z, its, n, r, hl, e⟩ := I.lstM hH
  refine call_meets F.slot_list_append ⟨_, e, rfl⟩ F.entry_list_append (F.args_list_append_2 _ _) (PySem.list_append l its.toArray n u (by rw [List.size_toArray]; omega)) ⟨e, ?_⟩
  refine ⟨.non, _, I.lset (its' := its ++ [u]) hH e (by simp) (r.append (.cons ru .nil)) ?_, rfl, q⟩
  rw [List.length_append, List.length_singleton]
  omega

def rExtend : V → List V → Hp → VK → Prop := fun x vs H Q => ∃ l b xs zs, x = .ref l ∧ vs = [.ref b] ∧ H l = some (.lst xs) ∧ H b = some (.lst zs) ∧ xs.length + zs.length ≤ sizeLine ∧ Q .non (upd H l (.lst (xs ++ zs)))
theorem mt_extend : MtM X "list.extend" rExtend := by
  intro pins s σ H x vs v us Q I rx rv h
  obtain ⟨l, b, xs, zs, rfl, rfl, hH, hB, hz, q⟩ := h
  cases rx
  obtain ⟨u, rfl, ru⟩ := rv.one
  cases ru
  obtain ⟨z, its, n, r, hl, e⟩ := I.lstM hH
  obtain ⟨z2, its2, n2, r2, hl2, e2⟩ := I.lstM hB
  have hsz : its.toArray.size + its2.toArray.size ≤ sizeLine := by rw [List.size_toArray, List.size_toArray]; omega
  have hlong : ¬ (!its.toArray.isEmpty && Builtin.List.listTooLong (its.toArray.size + its2.toArray.size)) = true := by
    rw [notLongL hsz, Bool.and_false]
    exact Bool.false_ne_true
  refine call_meets F.slot_list_extend ⟨_, e, rfl⟩ F.entry_list_extend (F.args_list_extend_2 _ _)
    (AutoSeq1.list_extend_list_list_0 l its.toArray n b its2.toArray n2 hlong (by rw [List.size_toArray]; omega) (by omega)) ⟨e, e2, ?_⟩
  refine ⟨.non, _, I.lset (its' := its ++ its2) hH e (by simp) (r.append r2) ?_, rfl, q⟩
  rw [List.length_append]
  omega

def rPop : V → List V → Hp → VK → Prop := fun x vs H Q => ∃ l xs y, x = .ref l ∧ vs = [] ∧ H l = some (.lst xs) ∧ xs[xs.length - 1]? = some y ∧ Q y (upd H l (.lst xs.dropLast))
theorem mt_pop : MtM X "list.pop" rPop := by
  intro pins s σ H x vs v us Q I rx rv h
  obtain ⟨l, xs, y, rfl, rfl, hH, hy, q⟩ := h
  cases rx
  have hus := rv.zero
  subst hus
  obtain ⟨z, its, n, r, hl, e⟩ := I.lstM hH
  obtain ⟨u, hu, ru⟩ := r.get hy
  have hy' : its.toArray[its.toArray.size - 1]? = some u := by
    show its.toArray[its.length - 1]? = some u
    rw [← Array.getElem?_toList, ← hl]
    exact hu
  refine call_meets F.slot_list_pop ⟨_, e, rfl⟩ F.entry_list_pop (F.args_list_pop_1 _) (MeetsSeq.list_pop_last l its.toArray n u hy' (by rw [List.size_toArray]; omega)) ⟨e, ?_⟩
  refine ⟨y, _, I.lset (its' := its.dropLast) hH e ?_ r.dropLast ?_, ru, q⟩
  · show its.toArray.eraseIdxIfInBounds (its.toArray.size - 1) = its.dropLast.toArray
    rw [List.size_toArray, List.eraseIdxIfInBounds_toArray, erase_last]
  · rw [List.length_dropLast]
    omega

/-! ### list + list, list += list, list * int -/
def rCat : R2 := fun x y H Q => ∃ l b xs zs, x = .ref l ∧ y = .ref b ∧ H l = some (.lst xs) ∧ H b = some (.lst zs) ∧ xs.length + zs.length ≤ sizeLine ∧ ∀ p, H p = none → Q (.ref p) (upd H p (.lst (xs ++ zs)))
theorem op_cat : OpR X (binaryOp .Add) rCat := by
  intro pins s σ H x y v u Q I rx ry h
  obtain ⟨l, b, xs, zs, rfl, rfl, hH, hB, hz, q⟩ := h
  cases rx
  cases ry
  obtain ⟨z, its, n, r, hl, e⟩ := I.lstM hH
  obtain ⟨z2, its2, n2, r2, hl2, e2⟩ := I.lstM hB
  refine PySem.P.add_list e e2 ?_ (by rw [List.size_toArray, List.size_toArray]; omega)
  have ea : its.toArray ++ its2.toArray = (its ++ its2).toArray := by simp
  rw [ea]
  exact ⟨.ref _, _, I.lnew (t' := s.toks) (r.append r2) (by rw [List.length_append]; omega), rfl, q _ I.fresh⟩
/-- a list times an int (a negative one is nothing) -/
def rRep : R2 := fun x y H Q => ∃ l k xs, x = .ref l ∧ y = .int k ∧ H l = some (.lst xs) ∧ -(2 ^ 63) ≤ k ∧ k < 2 ^ 63 ∧ xs.length * k.toNat ≤ sizeLine ∧
  ∀ p, H p = none → Q (.ref p) (upd H p (.lst (List.replicate k.toNat xs).flatten))
theorem len_rep {α : Type} (xs : List α) (k : Nat) : (List.replicate k xs).flatten.length = k * xs.length := by
  induction k with
  | zero => simp
  | succ k ih => rw [List.replicate_succ, List.flatten_cons, List.length_append, ih, Nat.succ_mul, Nat.add_comm]
theorem op_rep : OpR X (binaryOp .Mult) rRep := by
  intro pins s σ H x y v u Q I rx ry h
  obtain ⟨l, k, xs, rfl, rfl, hH, h1, h2, hz, q⟩ := h
  cases rx
  obtain ⟨t, rfl⟩ := ry
  obtain ⟨z, its, n, r, hl, e⟩ := I.lstM hH
  have hlen : its.toArray.size * k.toNat ≤ sizeLine := by rw [List.size_toArray, ← hl]; exact hz
  have hcap : ¬ its.toArray.size * k.toNat > (2 ^ 63 - 1) / 8 := by
    have : (sizeLine : Nat) ≤ (2 ^ 63 - 1) / 8 := by decide
    omega
  have hfit : ¬ (!Builtin.List.listFitsIndex k) = true := by
    rw [fitsIndex_both h1 h2]
    exact Bool.false_ne_true
  have hlong : ¬ Builtin.List.listTooLong (its.toArray.size * k.toNat) = true := by
    rw [notLongL hlen]
    exact Bool.false_ne_true
  have hnew : List.foldl (fun x1 x2 => x1 ++ x2) #[] (List.replicate (if its.toArray.isEmpty = true then 0 else k.toNat) its.toArray) = (List.replicate k.toNat its).flatten.toArray := by
    have f0 : ∀ m : Nat, List.foldl (fun x1 x2 => x1 ++ x2) #[] (List.replicate m its.toArray) = (List.replicate m its).flatten.toArray := fun m => by
      have := foldl_rep its m []
      rw [List.nil_append] at this
      exact this
    rw [f0]
    cases its with
    | nil => simp
    | cons a r' => rw [if_neg (by simp)]
  refine wpAny_binaryOp_repeat_ref (T := "list") (U := "int") (by decide) ⟨_, e, rfl⟩ (fun s' => typeIs_int s' k t) noFill_list_mul F.fills_int_mul F.slot_int_rmul repeat_list F.slot_int_index.lookup
    (call_meets F.slot_int_rmul (typeIs_int s k t) F.entry_int_rmul (F.args_int_rmul_2 _ _) (int___rmul___int_list k t l its.toArray n)
      ⟨e, rfl, ⟨_, e, rfl⟩, call_meets F.slot_list_mul ⟨_, e, rfl⟩ F.entry_list_mul (F.args_list_mul_2 _ _) (AutoListH.list___mul___list_int_3 l its.toArray n k t hfit hcap hlong) ⟨e, ?_⟩⟩)
  rw [hnew]
  exact ⟨.ref _, _, I.lnew (t' := s.toks) (r.rep k.toNat) (by rw [len_rep, Nat.mul_comm]; exact hz), rfl, q _ I.fresh⟩

/-! ### del xs[i] -/
end

/-! ### xs[a:b] = ys -/
section
variable {prog : Program} {w : World} {A : Around} {E : Value → Shared → Prop} {s : Shared}
set_option maxRecDepth 100000 in
end

section
variable {X : Cx}
end
end L2

namespace L2
open PySem PySem.Spec PyProof.Rows

/-! ### lists of pairs as tables -/
section
variable {κ : Type} [DecidableEq κ]
def valV (kvs : List (κ × V)) (k : κ) : Option V := (kvs.find? fun kv => decide (kv.1 = k)).map (·.2)
/-- in its place, or at the end -/
def putK (kvs : List (κ × V)) (k : κ) (v : V) : List (κ × V) :=
  if (kvs.any fun kv => decide (kv.1 = k)) = true then kvs.map (fun kv => if kv.1 = k then (kv.1, v) else kv) else kvs ++ [(k, v)]
theorem valV_nil {k : κ} : valV ([] : List (κ × V)) k = none := rfl
theorem valV_pos {p : κ × V} {r : List (κ × V)} {k : κ} (e : p.1 = k) : valV (p :: r) k = some p.2 := by simp [valV, List.find?_cons, e]
theorem valV_neg {p : κ × V} {r : List (κ × V)} {k : κ} (e : ¬ p.1 = k) : valV (p :: r) k = valV r k := by simp [valV, List.find?_cons, e]
theorem valV_any (k : κ) : ∀ kvs : List (κ × V), (kvs.any fun kv => decide (kv.1 = k)) = (valV kvs k).isSome
  | [] => rfl
  | p :: r => by
    rw [List.any_cons]
    by_cases e : p.1 = k
    · simp only [valV_pos e, decide_eq_true e, Bool.true_or, Option.isSome_some]
    · rw [valV_neg e, decide_eq_false e, Bool.false_or]; exact valV_any k r
theorem valV_map (k j : κ) (y : V) : ∀ kvs : List (κ × V), valV (kvs.map fun kv => if kv.1 = k then (kv.1, y) else kv) j = (valV kvs j).map fun x => if j = k then y else x
  | [] => rfl
  | p :: r => by
    have ih := valV_map k j y r
    rw [List.map_cons]
    by_cases h : p.1 = k
    · rw [if_pos h]
      by_cases e : p.1 = j
      · rw [valV_pos (p := (p.1, y)) e, valV_pos e, Option.map_some, if_pos (e.symm.trans h)]
      · rw [valV_neg (p := (p.1, y)) e, valV_neg e, ih]
    · rw [if_neg h]
      by_cases e : p.1 = j
      · rw [valV_pos (p := p) e, valV_pos e, Option.map_some, if_neg (fun z => h (e.trans z))]
      · rw [valV_neg (p := p) e, valV_neg e, ih]
theorem valV_snoc (k j : κ) (y : V) : ∀ kvs : List (κ × V), valV kvs k = none → valV (kvs ++ [(k, y)]) j = if j = k then some y else valV kvs j
  | [], _ => by
    by_cases e : k = j
    · rw [if_pos e.symm]; exact valV_pos (p := (k, y)) e
    · rw [if_neg (fun z => e z.symm)]; exact valV_neg (p := (k, y)) e
  | p :: r, hn => by
    rw [List.cons_append]
    have hk : ¬ p.1 = k := fun z => by rw [valV_pos z] at hn; cases hn
    rw [valV_neg hk] at hn
    have ih := valV_snoc k j y r hn
    by_cases e : p.1 = j
    · rw [valV_pos e, valV_pos e, if_neg (fun z => hk (e.trans z))]
    · rw [valV_neg e, valV_neg e, ih]
theorem valV_put (kvs : List (κ × V)) (k j : κ) (y : V) : valV (putK kvs k y) j = if j = k then some y else valV kvs j := by
  unfold putK
  by_cases a : (kvs.any fun kv => decide (kv.1 = k)) = true
  · rw [if_pos a, valV_map]
    rw [valV_any] at a
    by_cases e : j = k
    · obtain ⟨x, hx⟩ := Option.isSome_iff_exists.mp a
      rw [if_pos e, e, hx, Option.map_some, if_pos rfl]
    · rw [if_neg e]
      cases valV kvs j with
      | none => rfl
      | some x => rw [Option.map_some, if_neg e]
  · rw [if_neg a]
    refine valV_snoc k j y kvs ?_
    rw [valV_any] at a
    cases q : valV kvs k with
    | none => rfl
    | some x => rw [q] at a; exact (a rfl).elim
theorem length_putK (kvs : List (κ × V)) (k : κ) (v : V) : (putK kvs k v).length ≤ kvs.length + 1 := by
  unfold putK
  split
  · rw [List.length_map]; omega
  · rw [List.length_append, List.length_cons, List.length_nil]; omega
theorem putK_new {kvs : List (κ × V)} {k : κ} (v : V) (h : valV kvs k = none) : putK kvs k v = kvs ++ [(k, v)] := by
  unfold putK
  rw [valV_any, h]
  exact if_neg (by decide)

theorem RelO.isSome_eq {o : Option V} {u : Option Value} (r : RelO o u) : o.isSome = u.isSome := by
  cases o with
  | none => cases u with
    | none => rfl
    | some _ => exact (show False from r).elim
  | some _ => cases u with
    | none => exact (show False from r).elim
    | some _ => rfl
theorem RelO.getD {o : Option V} {u : Option Value} {d : V} {d' : Value} (r : RelO o u) (rd : RelV d d') : RelV (o.getD d) (u.getD d') := by
  cases o with
  | none => cases u with
    | none => exact rd
    | some _ => exact (show False from r).elim
  | some _ => cases u with
    | none => exact (show False from r).elim
    | some _ => exact r

/-- raw tables of the same keys -/
theorem KV.val {kvs : List (κ × V)} {vs : List (κ × Value)} (r : KV kvs vs) (k : κ) : RelO (valV kvs k) (valueAt vs k) := by
  unfold KV at r
  induction r with
  | nil => exact True.intro
  | @cons p q ps qs h t ih =>
    obtain ⟨h1, h2⟩ := h
    by_cases e : p.1 = k
    · have e' : q.1 = k := h1.symm.trans e
      have b : valueAt (q :: qs) k = some q.2 := by simp [valueAt, List.find?_cons, e']
      rw [valV_pos e, b]; exact h2
    · have e' : ¬ q.1 = k := fun z => e (h1.trans z)
      have b : valueAt (q :: qs) k = valueAt qs k := by simp [valueAt, List.find?_cons, e']
      rw [valV_neg e, b]; exact ih
theorem KV.any {kvs : List (κ × V)} {vs : List (κ × Value)} (r : KV kvs vs) (k : κ) : (kvs.any fun kv => decide (kv.1 = k)) = vs.any fun kv => decide (kv.1 = k) := by
  unfold KV at r
  induction r with
  | nil => rfl
  | cons h t ih => rw [List.any_cons, List.any_cons, ih, h.1]
theorem KV.repl {kvs : List (κ × V)} {vs : List (κ × Value)} (r : KV kvs vs) (k : κ) {y : V} {u : Value} (ry : RelV y u) :
    KV (kvs.map fun kv => if kv.1 = k then (kv.1, y) else kv) (vs.map fun kv => if kv.1 = k then (kv.1, u) else kv) := by
  unfold KV at r ⊢
  induction r with
  | nil => exact .nil
  | @cons p q ps qs h t ih =>
    rw [List.map_cons, List.map_cons]
    refine .cons ?_ ih
    obtain ⟨h1, h2⟩ := h
    by_cases e : p.1 = k
    · rw [if_pos e, if_pos (h1.symm.trans e)]; exact ⟨h1, ry⟩
    · rw [if_neg e, if_neg (fun z => e (h1.trans z))]; exact ⟨h1, h2⟩
theorem KV.put {kvs : List (κ × V)} {vs : List (κ × Value)} (r : KV kvs vs) (k : κ) {y : V} {u : Value} (ry : RelV y u) : KV (putK kvs k y) (stored vs k u) := by
  unfold putK stored
  rw [r.any k]
  by_cases e : (vs.any fun kv => decide (kv.1 = k)) = true
  · rw [if_pos e, if_pos e]; exact r.repl k ry
  · rw [if_neg e, if_neg e]; exact Paired.snoc r ⟨rfl, ry⟩
theorem KV.length {kvs : List (κ × V)} {vs : List (κ × Value)} (r : KV kvs vs) : kvs.length = vs.length := Paired.length r
end


/-! ### a tracked dict, its keys ints and texts or tuples of these -/
theorem kV_is {P : Program} {w : World} {k : Key} {u : Value} (r : RelV (kV k) u) : (mixKind P w).is k u = true := by
  cases k with
  | inl i => obtain ⟨t, e⟩ := (show ∃ t, u = Value.int i t from r); subst e; exact mixKind_int P w i t
  | inr x => obtain ⟨t, e⟩ := (show ∃ t, u = Value.str x t from r); subst e; exact mixKind_str P w x t
theorem items_are {P : Program} {w : World} : ∀ {ks : List Key} {us : List Value}, Vals (ks.map kV) us → ItemsAre (mixKind P w) ks us
  | [], _, r => by rw [List.map_nil] at r; cases r; exact .nil
  | k :: ks, _, r => by
    rw [List.map_cons] at r
    cases r with
    | cons h t => exact .cons (kV_is h) (items_are t)

/-- raw entries of a dict with tuple keys -/
abbrev KT (H : Hp) : List (List Key × V) → List (List Key × Addr × Value) → Prop := Paired fun p q => p.1 = q.1 ∧ H q.2.1 = some (.tup (p.1.map kV)) ∧ RelV p.2 q.2.2
theorem KT.val {H : Hp} {kvs : List (List Key × V)} {xs : List (List Key × Addr × Value)} (r : KT H kvs xs) (k : List Key) : RelO (valV kvs k) ((atKey xs k).map (·.2)) := by
  induction r with
  | nil => exact True.intro
  | @cons p q ps qs h t ih =>
    obtain ⟨h1, _, h2⟩ := h
    by_cases e : p.1 = k
    · have e' : q.1 = k := h1.symm.trans e
      have b : atKey (q :: qs) k = some q.2 := by simp [atKey, List.find?_cons, e']
      rw [valV_pos e, b]; exact h2
    · have e' : ¬ q.1 = k := fun z => e (h1.trans z)
      have b : atKey (q :: qs) k = atKey qs k := by simp [atKey, List.find?_cons, e']
      rw [valV_neg e, b]; exact ih
theorem KT.repl {H : Hp} {kvs : List (List Key × V)} {xs : List (List Key × Addr × Value)} (r : KT H kvs xs) (k : List Key) {y : V} {u : Value} (ry : RelV y u) :
    KT H (kvs.map fun kv => if kv.1 = k then (kv.1, y) else kv) (xs.map (putAt k u)) := by
  induction r with
  | nil => exact .nil
  | @cons p q ps qs h t ih =>
    rw [List.map_cons, List.map_cons]
    refine .cons ?_ ih
    obtain ⟨h1, h2, h3⟩ := h
    unfold putAt
    by_cases e : p.1 = k
    · rw [if_pos e, if_pos (h1.symm.trans e)]; exact ⟨h1, h2, ry⟩
    · rw [if_neg e, if_neg (fun z => e (h1.trans z))]; exact ⟨h1, h2, h3⟩
theorem KT.put {H : Hp} {kvs : List (List Key × V)} {xs : List (List Key × Addr × Value)} (r : KT H kvs xs) (k : List Key) {b : Addr} {y : V} {u : Value} (hb : H b = some (.tup (k.map kV))) (ry : RelV y u) :
    KT H (putK kvs k y) (storedH xs k b u) := by
  have e : (kvs.any fun kv => decide (kv.1 = k)) = (atKey xs k).isSome := by
    rw [valV_any, (r.val k).isSome_eq, Option.isSome_map]
  unfold putK storedH
  rw [e]
  by_cases q : (atKey xs k).isSome = true
  · rw [if_pos q, if_pos q]; exact r.repl k ry
  · rw [if_neg q, if_neg q]; exact Paired.snoc r ⟨rfl, hb, ry⟩
theorem KT.keeps {H H' : Hp} {kvs : List (List Key × V)} {xs : List (List Key × Addr × Value)} (r : KT H kvs xs) (ht : ∀ b ys, H b = some (.tup ys) → H' b = some (.tup ys)) : KT H' kvs xs :=
  Paired.mapP r fun _ _ z => ⟨z.1, ht _ _ z.2.1, z.2.2⟩

section
variable {P : Program} {w : World} {H : Hp} {h : Heap} {a : Addr}
theorem rd_of {u : HO} (ok : HOk P w H h) (e : Rd H a u) : ObjOk P w H h a u := e.ok ok
theorem dk_rd {kvs : List (Key × V)} (ok : HOk P w H h) (e : Rd H a (.dK kvs)) : kvs.length ≤ sizeLine ∧ (a == sysModules) = false ∧ ∃ vs, KV kvs vs ∧ h.DictOf (mixKind P w) a vs :=
  show ObjOk P w H h a (.dK kvs) from rd_of ok e
theorem dk_of {kvs : List (Key × V)} (ok : HOk P w H h) (e : H a = some (.dK kvs)) : kvs.length ≤ sizeLine ∧ (a == sysModules) = false ∧ ∃ vs, KV kvs vs ∧ h.DictOf (mixKind P w) a vs := dk_rd ok (.inl e)
/-- a tracked tuple of ints and texts is a key -/
theorem key_of {ks : List Key} (ok : HOk P w H h) (e : H a = some (.tup (ks.map kV))) : (tupleKind (mixKind P w)).is h ks a := by
  obtain ⟨_, its, r, o, h1, h2, n, h3⟩ := (show ObjOk P w H h a (.tup (ks.map kV)) from ok a _ e)
  exact ⟨o, its.toArray, n, h1, h2, h3, by simpa using items_are r⟩
theorem dt_rd {kvs : List (List Key × V)} (ok : HOk P w H h) (e : Rd H a (.dT kvs)) : kvs.length ≤ sizeLine ∧ (a == sysModules) = false ∧
    ∃ xs, KT H kvs xs ∧ h.DictOfH (tupleKind (mixKind P w)) a xs := by
  obtain ⟨z, y, xs, r, o, es, ep, h1, h2, h3, h4, h5⟩ := (show ObjOk P w H h a (.dT kvs) from rd_of ok e)
  refine ⟨z, y, xs, r, o, es, ep, h1, h2, h3, h4, fun x hx => ?_, h5⟩
  have all : ∀ {l : List (List Key × V)} {m : List (List Key × Addr × Value)}, KT H l m → ∀ x ∈ m, (tupleKind (mixKind P w)).is h x.1 x.2.1 := by
    intro l m q
    induction q with
    | nil => intro x hx; exact nomatch hx
    | @cons p q ps qs hq t ih =>
      intro x hx
      rcases List.mem_cons.mp hx with e | hx
      · subst e
        exact key_of ok (by rw [← hq.1]; exact hq.2.1)
      · exact ih x hx
  exact all r x hx
theorem dt_of {kvs : List (List Key × V)} (ok : HOk P w H h) (e : H a = some (.dT kvs)) : kvs.length ≤ sizeLine ∧ (a == sysModules) = false ∧
    ∃ xs, KT H kvs xs ∧ h.DictOfH (tupleKind (mixKind P w)) a xs := dt_rd ok (.inl e)
end

/-- what the dict at a holds at the key y -/
def DGet (H : Hp) (a : Addr) (y : V) (r : Option V) : Prop :=
  (∃ kvs k, Rd H a (.dK kvs) ∧ y = kV k ∧ r = valV kvs k) ∨ ∃ kvs k b, Rd H a (.dT kvs) ∧ y = .ref b ∧ H b = some (.tup (k.map kV)) ∧ r = valV kvs k
/-- the heap behind a[y] = v -/
def DPut (H : Hp) (a : Addr) (y v : V) (H' : Hp) : Prop :=
  (∃ kvs k, H a = some (.dK kvs) ∧ y = kV k ∧ kvs.length < sizeLine ∧ H' = upd H a (.dK (putK kvs k v))) ∨
  ∃ kvs k b, H a = some (.dT kvs) ∧ y = .ref b ∧ H b = some (.tup (k.map kV)) ∧ kvs.length < sizeLine ∧ H' = upd H a (.dT (putK kvs k v))
theorem DPut.t {H : Hp} {a b : Addr} {kvs : List (List Key × V)} {k : List Key} {v : V} (e : H a = some (.dT kvs)) (eb : H b = some (.tup (k.map kV))) (hl : kvs.length < sizeLine) :
    DPut H a (.ref b) v (upd H a (.dT (putK kvs k v))) := .inr ⟨kvs, k, b, e, rfl, eb, hl, rfl⟩


section
variable {X : Cx} {pins : List (Addr × Obj)} {σ : St} {H : Hp} {s : Shared} {a : Addr} {y v : V} {u r : Value} {o : Option V} {A : Around} {E : Value → Shared → Prop}

theorem Inv.big (I : Inv X pins σ H s) : sysModules < s.heap.objs.size := by
  have h : mainGlobals < s.heap.objs.size := (I.mod.glob.keeps I.bk).lt
  exact Nat.lt_trans (by decide) h

/-- d[y], there -/
theorem d_getItem {Q : Value → Shared → Prop} (hu : A.units + 1 < cLine) (I : Inv X pins σ H s) (g : DGet H a y (some v)) (ry : RelV y u) (h : ∀ w' s', Inv X pins σ H s' → RelV v w' → Q w' s') :
    wpAny (model X.prog X.w) A (getItem (.ref a) u) Q E s := by
  rcases g with ⟨kvs, k, e, ey, l⟩ | ⟨kvs, k, b, e, ey, eb, l⟩
  · subst ey
    obtain ⟨z, hd, vs, rel, dd⟩ := dk_rd I.hok e
    obtain ⟨w', hw, rw'⟩ := RelO.some_of (v := v) (o := valueAt vs k) (by rw [l]; exact rel.val k)
    exact wpAny_getItem_of (kV_is ry) dd.mapOf hw (h w' _ (I.tok _) rw')
  · subst ey
    cases (show u = Value.ref b from ry)
    obtain ⟨z, hd, xs, rel, dd⟩ := dt_rd I.hok e
    obtain ⟨w', hw, rw'⟩ := RelO.some_of (v := v) (o := (atKey xs k).map (·.2)) (by rw [l]; exact rel.val k)
    obtain ⟨p, hp, hp2⟩ := Option.map_eq_some_iff.mp hw
    refine wpAny_getItem_heap (tupleKind_room_in1 hu) (key_of I.hok eb) dd hp ?_
    rw [hp2]
    exact h w' _ (I.tok _) rw'
/-- y in d -/
theorem d_in {Q : Value → Shared → Prop} (hu : A.units + 1 < cLine) (I : Inv X pins σ H s) (g : DGet H a y o) (ry : RelV y u) (h : ∀ s', Inv X pins σ H s' → Q (.bool o.isSome) s') :
    wpAny (model X.prog X.w) A (compareOp .In u (.ref a)) Q E s := by
  rcases g with ⟨kvs, k, e, ey, l⟩ | ⟨kvs, k, b, e, ey, eb, l⟩
  · subst ey
    obtain ⟨z, hd, vs, rel, dd⟩ := dk_rd I.hok e
    refine wpAny_in_of (kV_is ry) hd dd.mapOf ?_
    rw [← (rel.val k).isSome_eq, ← l]
    exact h _ (I.tok _)
  · subst ey
    cases (show u = Value.ref b from ry)
    obtain ⟨z, hd, xs, rel, dd⟩ := dt_rd I.hok e
    refine wpAny_in_heap (tupleKind_room_in1 hu) (key_of I.hok eb) hd dd ?_
    have q := (rel.val k).isSome_eq
    rw [Option.isSome_map] at q
    rw [← q, ← l]
    exact h _ (I.tok _)
theorem d_notIn {Q : Value → Shared → Prop} (hu : A.units + 1 < cLine) (I : Inv X pins σ H s) (g : DGet H a y o) (ry : RelV y u) (h : ∀ s', Inv X pins σ H s' → Q (.bool (!o.isSome)) s') :
    wpAny (model X.prog X.w) A (compareOp .NotIn u (.ref a)) Q E s := by
  rcases g with ⟨kvs, k, e, ey, l⟩ | ⟨kvs, k, b, e, ey, eb, l⟩
  · subst ey
    obtain ⟨z, hd, vs, rel, dd⟩ := dk_rd I.hok e
    refine wpAny_notIn_of (kV_is ry) hd dd.mapOf ?_
    rw [← (rel.val k).isSome_eq, ← l]
    exact h _ (I.tok _)
  · subst ey
    cases (show u = Value.ref b from ry)
    obtain ⟨z, hd, xs, rel, dd⟩ := dt_rd I.hok e
    refine wpAny_notIn_heap (tupleKind_room_in1 hu) (key_of I.hok eb) hd dd ?_
    have q := (rel.val k).isSome_eq
    rw [Option.isSome_map] at q
    rw [← q, ← l]
    exact h _ (I.tok _)
/-- a dict's object is replaced -/
theorem d_write {h' : Heap} {t' : Nat} {ob : HO} (I : Inv X pins σ H s) (mu : Mut (H a)) (hs : Heap.SameBut a s.heap h') (he : ∃ q, h'.get? a = some q) (new : ObjOk X.prog X.w (upd H a ob) h' a ob) :
    Inv X pins σ (upd H a ob) { s with heap := h', toks := t' } :=
  I.write (x := a) (e := a) mu (.inl rfl) (fun b q hb z => (hs.2 b hb).trans z) he new
theorem dk_new {P : Program} {w : World} {H' : Hp} {h' : Heap} {kvs : List (Key × V)} {vs : List (Key × Value)} (z : kvs.length ≤ sizeLine) (hd : (a == sysModules) = false) (rel : KV kvs vs) (dd : h'.DictOf (mixKind P w) a vs) :
    ObjOk P w H' h' a (.dK kvs) := ⟨z, hd, vs, rel, dd⟩
/-- d[y] = v -/
theorem d_setItem {H' : Hp} {Q : Unit → Shared → Prop} (hu : A.units + 1 < cLine) (I : Inv X pins σ H s) (g : DPut H a y v H') (ry : RelV y u) (rv : RelV v r) (h : ∀ s', Inv X pins σ H' s' → Q () s') :
    wpAny (model X.prog X.w) A (setItem (.ref a) u r) Q E s := by
  rcases g with ⟨kvs, k, e, ey, l, eH⟩ | ⟨kvs, k, b, e, ey, eb, l, eH⟩
  · subst ey eH
    obtain ⟨z, hd, vs, rel, dd⟩ := dk_of I.hok e
    have hz : vs.length ≤ sizeLine := by rw [← rel.length]; exact z
    have hl : (putK kvs k v).length ≤ sizeLine := by have := length_putK kvs k v; omega
    refine wpAny_setItem_pairs (hsz := hz) (kV_is ry) dd fun h' dd' hs => h _ ?_
    have he : ∃ q, h'.get? a = some q := let ⟨q, _, _, hq, _⟩ := dd'; ⟨q, hq⟩
    exact d_write I (by rw [e]; exact True.intro) hs he (dk_new hl hd (rel.put k rv) dd')
  · subst ey eH
    cases (show u = Value.ref b from ry)
    obtain ⟨z, hd, xs, rel, dd⟩ := dt_of I.hok e
    have hz : xs.length ≤ sizeLine := by rw [← Paired.length rel]; exact z
    have hl : (putK kvs k v).length ≤ sizeLine := by have := length_putK kvs k v; omega
    refine wpAny_setItem_heap (hsz := hz) (tupleKind_room_in1 hu) (key_of I.hok eb) dd fun h' dd' hs => h _ ?_
    obtain ⟨q, es, ep, hq, h2, h3, h4, _, h5⟩ := dd'
    refine d_write I (by rw [e]; exact True.intro) hs ⟨q, hq⟩ ⟨hl, hd, _, (rel.put k eb rv).keeps fun c ys ec => ?_, q, es, ep, hq, h2, h3, h4, h5⟩
    rw [upd_ne (ne_of ec e (fun z => nomatch z))]
    exact ec
end

section
variable {X : Cx} {pins : List (Addr × Obj)} {σ : St} {H : Hp} {s : Shared} {a : Addr} {kvs : List (Key × V)} {k : Key} {u : Value} {A : Around} {E : Value → Shared → Prop}
end


/-! ### readings and rules -/
/-- the element of a subscription, not a slice -/
def NoSl (i : Expr) : Prop := ∀ ov iv, subscripted i false ov iv = operate [ov, iv] (getItem ov iv)
theorem subD_of {prog : Program} {w : World} {A : Around} {E : Value → Shared → Prop} {s : Shared} {env : Env} {value slice : Expr} {pos : Pos} {T id : String} {Q : Value → Shared → Prop}
    (hl : typeLookup (.type T) "__getitem__" = pure (some (.builtin id))) (hs : NoSl slice)
    (h : wpAny (model prog w) A (eval value env) (fun o s₁ => wpAny (model prog w) A (eval slice env) (fun i s₂ => s₂.TypeIs o T ∧ wpAny (model prog w) A (getItem o i) Q E s₂) E s₁) E s) :
    wpAny (model prog w) A (eval (.Subscript value slice pos) env) Q E s := by
  refine Subscript_ (wpAny_mono h (fun o s₁ h₁ => wpAny_mono h₁ (fun i s₂ h₂ => ?_) fun _ _ x => x) fun _ _ x => x)
  obtain ⟨hT, h₂⟩ := h₂
  unfold subscriptTail
  refine wpAny_bind ?_
  rw [getitemInPython_of_ne hT.not_modules]
  refine wpAny_bind (wpAny_specialOf hT hl ?_)
  have fin : wpAny (model prog w) A (subscripted slice false o i) (fun r s₃ => wpAny (model prog w) A (letTemporaryGo value o r >>= fun _ => pure r) Q E s₃) E s₂ := by
    rw [hs o i]
    exact wpAny_operating (wpAny_mono h₂ (fun r s₃ h₃ => wpAny_bind (wpAny_letTemporaryGo (wpAny_pure h₃))) fun _ _ x => x)
  first
    | exact wpAny_pure (wpAny_bind fin)
    | exact wpAny_bind (wpAny_pure (wpAny_bind fin))
    | exact wpAny_bind fin

theorem dict_typeIs {X : Cx} {pins : List (Addr × Obj)} {σ : St} {H : Hp} {s : Shared} {a : Addr} {y : V} {o : Option V} (I : Inv X pins σ H s) (g : DGet H a y o) : s.TypeIs (.ref a) "dict" := by
  rcases g with ⟨kvs, k, e, _, _⟩ | ⟨kvs, k, b, e, _, _, _⟩
  · obtain ⟨_, _, vs, _, dd⟩ := dk_rd I.hok e
    exact dd.typeIs
  · obtain ⟨_, _, xs, _, dd⟩ := dt_rd I.hok e
    exact dd.typeIs
/-- d[y] -/
def tDGet (td ty : TE) : TE := fun σ H Q => td σ H fun x H1 => ty σ H1 fun y H2 => ∃ a v, x = .ref a ∧ DGet H2 a y (some v) ∧ Q v H2
/-- y in d, y not in d -/
def tDIn (ty td : TE) : TE := fun σ H Q => ty σ H fun y H1 => td σ H1 fun x H2 => ∃ a o, x = .ref a ∧ DGet H2 a y o ∧ Q (.bl o.isSome) H2
def tDNotIn (ty td : TE) : TE := fun σ H Q => ty σ H fun y H1 => td σ H1 fun x H2 => ∃ a o, x = .ref a ∧ DGet H2 a y o ∧ Q (.bl (!o.isSome)) H2
/-- d[y] = v -/
def sDPut (td ty tv : TE) : TS := fun D σ H => tv σ H fun v H1 => td σ H1 fun x H2 => ty σ H2 fun y H3 => ∃ a H4, x = .ref a ∧ DPut H3 a y v H4 ∧ D.nx σ H4
section
variable {X : Cx} {o i e value : Expr} {pos pos' tpos : Pos} {td ty tv : TE}
theorem pe_dget (hu : X.A.units + 1 < cLine) (ho : PE X o td) (hi : PE X i ty) (hs : NoSl i) : PE X (.Subscript o i pos) (tDGet td ty) := by
  intro pins s σ H Q I h
  refine subD_of PySem.F.slot_dict_getitem.lookup hs (thn (ho pins s σ H _ I h) fun u s1 ⟨x, H1, I1, rx, q1⟩ => thn (hi pins s1 σ H1 _ I1 q1) fun iv s2 ⟨y, H2, I2, ry, a, v, ex, g, q2⟩ => ?_)
  subst ex
  obtain rfl : u = Value.ref a := rx
  exact ⟨dict_typeIs I2 g, d_getItem hu I2 g ry fun w' s3 I3 rw' => ⟨v, H2, I3, rw', q2⟩⟩
theorem pc_din (hu : X.A.units + 1 < cLine) (hi : PE X i ty) (ho : PE X o td) : PC X .In i o (tDIn ty td) := by
  intro pins s σ H Q I h
  refine thn (hi pins s σ H _ I h) fun iv s1 ⟨y, H1, I1, ry, q1⟩ => thn (ho pins s1 σ H1 _ I1 q1) fun u s2 ⟨x, H2, I2, rx, a, ov, ex, g, q2⟩ => ?_
  subst ex
  obtain rfl : u = Value.ref a := rx
  exact d_in hu I2 g ry fun s3 I3 => ⟨.bl ov.isSome, H2, I3, rfl, q2⟩
theorem pc_dnotin (hu : X.A.units + 1 < cLine) (hi : PE X i ty) (ho : PE X o td) : PC X .NotIn i o (tDNotIn ty td) := by
  intro pins s σ H Q I h
  refine thn (hi pins s σ H _ I h) fun iv s1 ⟨y, H1, I1, ry, q1⟩ => thn (ho pins s1 σ H1 _ I1 q1) fun u s2 ⟨x, H2, I2, rx, a, ov, ex, g, q2⟩ => ?_
  subst ex
  obtain rfl : u = Value.ref a := rx
  exact d_notIn hu I2 g ry fun s3 I3 => ⟨.bl (!ov.isSome), H2, I3, rfl, q2⟩
theorem ps_dput (hu : X.A.units + 1 < cLine) (ho : PE X o td) (hi : PE X i ty) (hv : PE X value tv) (hs : swapsWith value (some (.Subscript o i pos')) pos.line X.env = pure false) :
    PS X (.Assign [.Subscript o i pos'] value pos) (sDPut td ty tv) := by
  intro pins s σ H D I h
  refine wpAny_Assign_Subscript (thn (hv pins s σ H _ I h) fun r s1 ⟨v, H1, I1, rv, q1⟩ => thn (ho pins s1 σ H1 _ I1 q1) fun u s2 ⟨x, H2, I2, rx, q2⟩ => thn (hi pins s2 σ H2 _ I2 q2) fun iv s3 ⟨y, H3, I3, ry, a, H4, ex, g, q3⟩ => ?_) hs
  subst ex
  obtain rfl : u = Value.ref a := rx
  exact d_setItem hu I3 g ry rv fun s4 I4 => ⟨σ, H4, I4, q3⟩
end


/-! ### displays -/
theorem dt_empty {P : Program} {w : World} {H : Hp} (h : Heap) (hb : sysModules < h.objs.size) : ObjOk P w H (h.push { cls := .type "dict", data := .dict #[] }) h.objs.size (.dT []) :=
  ⟨Nat.zero_le _, beq_eq_false_iff_ne.mpr (Ne.symm (Nat.ne_of_lt hb)), [], .nil, _, #[], 0, Heap.get?_push_size _ rfl, ⟨rfl, rfl, rfl⟩, rfl, rfl, List.nodup_nil⟩
def tDNewT : TE := fun _ H Q => ∀ p, H p = none → Q (.ref p) (upd H p (.dT []))
section
variable {X : Cx} {pos : Pos}
theorem pe_dnewT : PE X (.Dict [] [] pos) tDNewT := fun pins s σ H Q I h =>
  wpAny_Dict_empty ⟨.ref s.heap.objs.size, _, I.laid (a := s.heap.objs.size) (o := .dT []) (t' := s.toks) (fun _ _ q => Heap.get?_push_of_some _ q) (Nat.le_refl _) (dt_empty s.heap I.big), rfl, h _ (I.hok.fresh (Nat.le_refl _))⟩
end

/-! ### methods -/
/-- a method call o.m(e) of a built-in, with one argument: what must be seen of the text -/
structure M1 (X : Cx) (o : Expr) (m : Str) (apos : Pos) (e : Expr) (cpos : Pos) : Prop where
  base : attributeBase o m X.env (eval o X.env) = eval o X.env
  few : ((backTo cpos (starEach [e] X.env)).all (fun x => !x.1) && (backToKw cpos (keywordEach [] X.env)).all (fun x => x.1.isSome)
    && decide (([e] : List Expr).length + ([] : List Keyword).length + (if ([] : List Keyword).isEmpty then 0 else 1) < 30)) = true
  line : (apos.endLine == cpos.line) = true
  trees : backTo cpos (starEach [e] X.env) = [(false, eval e X.env)]
structure M2 (X : Cx) (o : Expr) (m : Str) (apos : Pos) (e f : Expr) (cpos : Pos) : Prop where
  base : attributeBase o m X.env (eval o X.env) = eval o X.env
  few : ((backTo cpos (starEach [e, f] X.env)).all (fun x => !x.1) && (backToKw cpos (keywordEach [] X.env)).all (fun x => x.1.isSome)
    && decide (([e, f] : List Expr).length + ([] : List Keyword).length + (if ([] : List Keyword).isEmpty then 0 else 1) < 30)) = true
  line : (apos.endLine == cpos.line) = true
  trees : backTo cpos (starEach [e, f] X.env) = [(false, eval e X.env), (false, eval f X.env)]

/-- a is a dict, whatever its keys -/
def IsD (H : Hp) (a : Addr) : Prop := (∃ kvs, Rd H a (.dK kvs)) ∨ ∃ kvs, Rd H a (.dT kvs)
theorem isD_at {X : Cx} {pins : List (Addr × Obj)} {σ : St} {H : Hp} {s : Shared} {a : Addr} (I : Inv X pins σ H s) (d : IsD H a) :
    s.TypeIs (.ref a) "dict" ∧ (∀ b, Value.ref a = .ref b → ∃ ob, s.heap.get? b = some ob ∧ ob.dict = none) ∧ (a == sysModules) = false := by
  rcases d with ⟨kvs, e⟩ | ⟨kvs, e⟩
  · obtain ⟨_, hd, vs, _, dd⟩ := dk_rd I.hok e
    refine ⟨dd.typeIs, fun b q => ?_, hd⟩
    cases q
    obtain ⟨ob, _, _, h1, h2, _⟩ := dd
    exact ⟨ob, h1, h2.2.1⟩
  · obtain ⟨_, hd, xs, _, dd⟩ := dt_rd I.hok e
    refine ⟨dd.typeIs, fun b q => ?_, hd⟩
    cases q
    obtain ⟨ob, _, _, h1, h2, _⟩ := dd
    exact ⟨ob, h1, h2.2.1⟩

section
variable {X : Cx} {pins : List (Addr × Obj)} {σ : St} {H : Hp} {s : Shared} {a : Addr} {y d : V} {u r : Value} {o : Option V} {A : Around} {E : Value → Shared → Prop}
/-- d.get(y) -/
theorem d_get1 {Q : Value → Shared → Prop} (hu : A.units + 1 < cLine) (I : Inv X pins σ H s) (g : DGet H a y o) (ry : RelV y u) (h : ∀ w' s', Inv X pins σ H s' → RelV (o.getD .non) w' → Q w' s') :
    wpAny (model X.prog X.w) A (call (.builtin "dict.get") [.ref a, u]) Q E s := by
  rcases g with ⟨kvs, k, e, ey, l⟩ | ⟨kvs, k, b, e, ey, eb, l⟩
  · subst ey
    obtain ⟨z, hd, vs, rel, dd⟩ := dk_rd I.hok e
    refine call_meetsIn PySem.F.slot_dict_get dd.typeIs PySem.F.entry_dict_get (PySem.F.args_dict_get_2 _ _) (meets_dict_get (mixKind X.prog X.w) a (kV_is ry) hd) ⟨_, dd.mapOf, h _ _ (I.tok _) ?_⟩
    rw [l]
    exact (rel.val k).getD rfl
  · subst ey
    cases (show u = Value.ref b from ry)
    obtain ⟨z, hd, xs, rel, dd⟩ := dt_rd I.hok e
    refine call_meetsIn PySem.F.slot_dict_get dd.typeIs PySem.F.entry_dict_get (PySem.F.args_dict_get_2 _ _) (meetsH_dict_get (tupleKind (mixKind X.prog X.w)) a b hd) ⟨tupleKind_room_in1 hu, k, xs, key_of I.hok eb, dd, h _ _ (I.tok _) ?_⟩
    rw [l]
    exact (rel.val k).getD rfl
/-- d.get(y, x) -/
theorem d_get2 {Q : Value → Shared → Prop} (hu : A.units + 1 < cLine) (I : Inv X pins σ H s) (g : DGet H a y o) (ry : RelV y u) (rd : RelV d r) (h : ∀ w' s', Inv X pins σ H s' → RelV (o.getD d) w' → Q w' s') :
    wpAny (model X.prog X.w) A (call (.builtin "dict.get") [.ref a, u, r]) Q E s := by
  rcases g with ⟨kvs, k, e, ey, l⟩ | ⟨kvs, k, b, e, ey, eb, l⟩
  · subst ey
    obtain ⟨z, hd, vs, rel, dd⟩ := dk_rd I.hok e
    refine call_meetsIn PySem.F.slot_dict_get dd.typeIs PySem.F.entry_dict_get (PySem.F.args_dict_get_3 _ _ _) (meets_dict_get_default (mixKind X.prog X.w) a (kV_is ry) hd r) ⟨_, dd.mapOf, h _ _ (I.tok _) ?_⟩
    rw [l]
    exact (rel.val k).getD rd
  · subst ey
    cases (show u = Value.ref b from ry)
    obtain ⟨z, hd, xs, rel, dd⟩ := dt_rd I.hok e
    refine call_meetsIn PySem.F.slot_dict_get dd.typeIs PySem.F.entry_dict_get (PySem.F.args_dict_get_3 _ _ _) (meetsH_dict_get_default (tupleKind (mixKind X.prog X.w)) a b hd r) ⟨tupleKind_room_in1 hu, k, xs, key_of I.hok eb, dd, h _ _ (I.tok _) ?_⟩
    rw [l]
    exact (rel.val k).getD rd
end

def tDGet1 (td ty : TE) : TE := fun σ H Q => td σ H fun x H1 => ∃ a, x = .ref a ∧ IsD H1 a ∧ ty σ H1 fun y H2 => ∃ o, DGet H2 a y o ∧ Q (o.getD .non) H2
def tDGet2 (td ty tx : TE) : TE := fun σ H Q => td σ H fun x H1 => ∃ a, x = .ref a ∧ IsD H1 a ∧ ty σ H1 fun y H2 => tx σ H2 fun z H3 => ∃ o, DGet H3 a y o ∧ Q (o.getD z) H3
section
variable {X : Cx} {o e f : Expr} {apos cpos : Pos} {td ty tx : TE}
theorem pe_dget1 (hu : X.A.units + 1 < cLine) (ho : PE X o td) (he : PE X e ty) (m : M1 X o "get" apos e cpos) : PE X (.Call (.Attribute o "get" apos) [e] [] cpos) (tDGet1 td ty) := by
  intro pins s σ H Q I h
  refine wpAny_Call_method m.base m.few m.line PySem.F.plainAttrs_dict PySem.F.slot_dict_get PySem.F.type_dict_get (thn (ho pins s σ H _ I h) fun u s1 ⟨x, H1, I1, rx, a, ex, d, q1⟩ => ?_)
  subst ex
  obtain rfl : u = Value.ref a := rx
  obtain ⟨t1, t2, _⟩ := isD_at I1 d
  refine ⟨t1, t2, ?_⟩
  rw [m.trees]
  refine Calls.callWith_builtin rfl (Calls.evalArgs_plain (Calls.spliced_cons (thn (he pins s1 σ H1 _ I1 q1) fun iv s2 ⟨y, H2, I2, ry, ov, g, q2⟩ => Calls.spliced_nil ?_)))
  exact d_get1 hu I2 g ry fun w' s3 I3 rw' => ⟨_, H2, I3, rw', q2⟩
theorem pe_dget2 (hu : X.A.units + 1 < cLine) (ho : PE X o td) (he : PE X e ty) (hf : PE X f tx) (m : M2 X o "get" apos e f cpos) : PE X (.Call (.Attribute o "get" apos) [e, f] [] cpos) (tDGet2 td ty tx) := by
  intro pins s σ H Q I h
  refine wpAny_Call_method m.base m.few m.line PySem.F.plainAttrs_dict PySem.F.slot_dict_get PySem.F.type_dict_get (thn (ho pins s σ H _ I h) fun u s1 ⟨x, H1, I1, rx, a, ex, d, q1⟩ => ?_)
  subst ex
  obtain rfl : u = Value.ref a := rx
  obtain ⟨t1, t2, _⟩ := isD_at I1 d
  refine ⟨t1, t2, ?_⟩
  rw [m.trees]
  refine Calls.callWith_builtin rfl (Calls.evalArgs_plain (Calls.spliced_cons (thn (he pins s1 σ H1 _ I1 q1) fun iv s2 ⟨y, H2, I2, ry, q2⟩ =>
    Calls.spliced_cons (thn (hf pins s2 σ H2 _ I2 q2) fun fv s3 ⟨z, H3, I3, rz, ov, g, q3⟩ => Calls.spliced_nil ?_))))
  exact d_get2 hu I3 g ry rz fun w' s4 I4 rw' => ⟨_, H3, I4, rw', q3⟩
end

/-! ### dict(d): a copy -/
section
variable {X : Cx} {pins : List (Addr × Obj)} {σ : St} {H : Hp} {s : Shared} {a : Addr} {kvs : List (Key × V)} {A : Around} {E : Value → Shared → Prop}
end


section
variable {X : Cx} {pins : List (Addr × Obj)} {σ : St} {H : Hp} {s : Shared} {a : Addr} {y : V} {u : Value} {A : Around} {E : Value → Shared → Prop}
end
end L2

namespace Att
open PySem PySem.W PySem.Calls PyProof.Rows

/-! ### the script -/
theorem ints_of_wellAll {P : Params} {h : Heap} : ∀ (ns : List Int) (vs : List Value), WellAll P h vs (ns.map WData.int) → IntsAre vs ns := by
  intro ns
  induction ns with
  | nil =>
    intro vs w
    rw [List.map_nil] at w
    cases w
    exact .nil
  | cons n ns ih =>
    intro vs w
    rw [List.map_cons] at w
    cases w with
    | cons a b =>
      cases a
      exact .cons _ _ (ih _ b)

theorem script_of {l : OpenLaw} {n : Nat} (hn : l.most = some n) {P : Params} {h : Heap} {args : List WData} {vals : List Value}
    (hpre : l.row.toRowW.claim.pre args = true) (hwl : WellAll P h vals args) :
    ∃ a vs ns, vals = [Value.ref a] ∧ args = [WData.list (ns.map WData.int)] ∧ h.get? a = some { cls := .type "list", data := .seq vs.toArray } ∧ IntsAre vs ns ∧ ns.length ≤ n := by
  have hsh : WShape.hasAll [] args [.list .int] = true := (pre_splitW hpre).1
  have hc : l.pre.holds [] { args := args } = true := (pre_splitW hpre).2
  obtain ⟨d, r, rfl, h1, h2⟩ := hasAllW_cons hsh
  obtain rfl := hasAllW_nil h2
  obtain ⟨xs, rfl, h3⟩ := hasW_list h1
  obtain ⟨ns, rfl⟩ := items_int h3
  have hlen : ns.length ≤ n := by
    unfold OpenLaw.pre at hc
    have h4 : (WTm.not (.lt (.lit (.int (n : Int))) (.len (.arg 0)))).holds [] { args := [.list (ns.map .int)] } = true := by
      have h4 := (holds_andW hc).1
      rw [hn] at h4
      exact h4
    have h5 := condW_of h4 (w_not (w_lt w_lit (w_len_list (w_arg rfl))))
    rw [List.length_map] at h5
    refine Nat.le_of_not_lt fun q => ?_
    have q' : (n : Int) < ((ns.length : Nat) : Int) := by omega
    first
      | (rw [decide_eq_true q'] at h5; exact absurd h5 (by decide))
      | (simp at h5; omega)
  cases hwl with
  | cons w1 w2 =>
    cases w2
    cases w1 with
    | list ho hall => exact ⟨_, _, ns, rfl, rfl, ho, ints_of_wellAll ns _ hall, hlen⟩

theorem post_true (l : OpenLaw) (args : List WData) : l.row.toRowW.claim.post args (.bool true) args = true :=
  postW_of (r := l.row.toRowW) (X := (true == true))
    (show WShape.has [] (.bool true) .bool = true by first | rfl | decide | simp [WShape.has, WShape.arms, WShape.armsAll])
    (show (WTm.eq .res (.lit (.bool true))).value [] { args := args, res := some (.bool true), after := args } = some (.bool (true == true)) from w_eq_bool (w_res rfl) w_lit) rfl

/-! ### the attachment: holds_open's last premise (the goal 'hc' behind k_head) from a wpAny of the law's body -/
/-- the same from a codeAny of the CALL (for a layer whose function contracts speak of calls) -/
theorem attach_call {l : OpenLaw} {n : Nat} {q : Program} {loose : List Str} {XP : (Str → Option Value) → Heap → Prop} {YP : World → Heap → Prop} {d : DefRec}
    (hn : l.most = some n) (hdf : d.params.defaults = [])
    (call : ∀ (w : World) (s₀ s₁ : Shared) (mg mb : Str → Option Value) (fa : Addr) (o : Obj) (pm cd doc : Value) (a : Addr) (vs : List Value) (ns : List Int),
      Ground q loose [] XP w s₀ mg mb s₁.heap → YP w s₁.heap →
      s₁.heap.get? fa = some o → o.data = .func (docDef d.name d.params d.body d.scope pm cd doc) → s₁.heap.CodeRec cd d.name → mg d.name = some (.ref fa) →
      s₁.heap.get? a = some { cls := .type "list", data := .seq vs.toArray } → IntsAre vs ns → ns.length ≤ n → s₁.gens = #[] →
      codeAny (model l.prog w) callerA (.call (.ref fa) ⟨[.ref a], []⟩) (fun r s' => r = .ok (.ret (.bool true)) ∧ OldK s₁.heap s'.heap ∧ s'.os = s₁.os ∧ AllBare s'.gens) s₁) :
    WalkO q loose XP YP l.row.toRowW d [] (fun f vs => PySem.call f vs) := by
  intro w s₀ s₁ mg mb G Y fa o pm cd doc dV kV ho hd hcd hD hmg hg args vals as hpre hlay hrd hwl hlo
  obtain rfl : dV = .none := Dflts.none hD hdf
  obtain rfl : kV = .none := Dflts.noKw hD
  obtain ⟨a, vs, ns, rfl, rfl, hobj, hints, hlen⟩ := script_of hn hpre hwl
  refine enter_call (codeAny_mono (call w s₀ s₁ mg mb fa o pm cd doc a vs ns G Y ho (fd_plain hd) hcd hmg hobj hints hlen hg) fun r s' hq => ?_)
  obtain ⟨rfl, h2, h3, h4⟩ := hq
  exact ⟨.inl ⟨.bool true, .bool true, [], rfl, fun _ => rfl, .bool true, post_true l _, fun _ => ⟨List.Pairwise.nil, fun _ hm => (nomatch hm)⟩⟩, h2, h3, h4⟩

/-! ### rules over ANY heap (no ledger) from facts about the written part K: the library's own take a ledger (News) for what they write -/
section
variable {prog : Program} {w : World} {A : Around} {E : Value → Shared → Prop} {s : Shared} {K : Frag}

/-! the whole heap as the ledger: makes every rule that writes through a ledger a rule over any heap -/
def ledger (h : Heap) (L d : Addr) : List (Addr × Obj) := (List.range h.objs.size).filterMap fun a => if a = L ∨ a = d then none else (h.get? a).map fun o => (a, o)
end
end Att

namespace L2
open PySem PySem.Spec PyProof.Rows

theorem vals_ints : ∀ {vs : List Value} {ns : List Int}, IntsAre vs ns → Vals (ns.map V.int) vs
  | _, _, .nil => .nil
  | _, _, .cons n t h => .cons ⟨t, rfl⟩ (vals_ints h)

/-- nothing is tracked but the script, known to the object (or it is an object of the module) -/
def Only (H : Hp) : Prop := ∀ b, H b = none ∨ ∃ o xs, H b = some (.frz o (.lst xs))

/-- THE HEAD: the law's promise, at the heap behind the top. F, the promise of the law's def, may use that base is part of the heap (so K.In base, base.Ns mainGlobals mg stand in Mod) -/
theorem law_call {P : Program} {w : World} {K : PySem.W.Frag} {mg mb : Str → Option Value} {CX : CXT} {k : Nat} {fa a : Addr} {fd : FuncData} {x : Str} {sp : Sp} {s₁ : Shared} {vs : List Value} {ns : List Int}
    (KX : K.In s₁.heap) (hns : s₁.heap.Ns mainGlobals mg) (hb : s₁.heap.Ns builtinsNs mb) (hbb : ∀ x : Str, x ≠ "__name__" → mb x = bootBuiltins x) (hlim : s₁.heap.NoLimit) (hg : s₁.gens = #[])
    (ha : s₁.heap.get? a = some { cls := .type "list", data := .seq vs.toArray }) (hi : IntsAre vs ns) (hl : ns.length ≤ sizeLine) (hr : Room k callerA)
    (F : ∀ base : Heap, K.In base → base.Ns mainGlobals mg → FnOk P w K mg base CX k fa fd [x] sp) (hbind : ∀ (s : Shared) (u : Value), BindsTo s fd ⟨[u], []⟩ [(x, u)])
    (hsp : ∀ H : Hp, Only H → SqL K H a (ns.map V.int) → sp [.ref a] H (fun v _ => v = .bl true) fun _ _ _ => False)
    (hCX : ∀ H e s', CX [] H s₁ (fun _ _ _ => False) e s' → False) :
    codeAny (model P w) callerA (.call (.ref fa) ⟨[.ref a], []⟩) (fun r s' => r = .ok (.ret (.bool true)) ∧ OldK s₁.heap s'.heap ∧ s'.os = s₁.os ∧ AllBare s'.gens) s₁ := by
  have rv := vals_ints hi
  have lenV := hi.length
  -- from an abstract heap in which nothing but the script may be tracked
  have core : ∀ H : Hp, Only H → SqL K H a (ns.map V.int) → HOk P w H s₁.heap → (∀ b, H b ≠ none → b = a) → (H a ≠ none → K.lookup a = none) →
      codeAny (model P w) callerA (.call (.ref fa) ⟨[.ref a], []⟩) (fun r s' => r = .ok (.ret (.bool true)) ∧ OldK s₁.heap s'.heap ∧ s'.os = s₁.os ∧ AllBare s'.gens) s₁ := by
    intro H hO hS hok hA hK
    have base_of : ∀ {b : Addr} {o : Obj}, s₁.heap.get? b = some o → H b = none → (hidT s₁.heap H).get? b = some o := fun e n => hidT_get e n
    have noA : ∀ {b : Addr} {o : Obj} {es : Array DictEntry} {ep : Nat}, s₁.heap.get? b = some o → o.data = .dict es ep → H b = none := fun {b o es ep} e d => by
      cases q : H b with
      | none => rfl
      | some u =>
        have e' : b = a := hA b (by rw [q]; simp)
        subst e'
        rw [ha] at e; cases e
        have d' : Data.seq vs.toArray _ = Data.dict es ep := d
        cases d'
    have nsK : ∀ {b : Addr} {m : Str → Option Value}, s₁.heap.Ns b m → (hidT s₁.heap H).Ns b m := fun {b m} ⟨o, es, ep, e, d, r⟩ => ⟨o, es, ep, base_of e (noA e d), d, r⟩
    have hKb : K.In (hidT s₁.heap H) := fun b o e => base_of (KX b o e) (by
      cases q : H b with
      | none => rfl
      | some u =>
        have e' : b = a := hA b (by rw [q]; simp)
        subst e'
        rw [hK (by rw [q]; simp)] at e; cases e)
    have hM : Mod K mg (hidT s₁.heap H) := ⟨hKb, nsK hns, ⟨mb, nsK hb, hbb⟩, let ⟨mc, h1, h2⟩ := hlim; ⟨mc, nsK h1, h2⟩⟩
    have e0 : Env0 P w K mg (hidT s₁.heap H) callerA [] s₁ H := ⟨rfl, hM, fun b o e => of_hidT e, Nat.le_of_eq (hidT_size _ _), trivial, fun b hb => absurd (show b ∈ ([] : List Addr) from hb) (by simp), hok, .of_eq hg⟩
    refine codeAny_mono ((F _ hKb (nsK hns)).run callerA [] s₁ H ⟨[.ref a], []⟩ [.ref a] [.ref a] _ _ hr e0 (hbind s₁ (.ref a)) (.cons rfl .nil) (hsp H hO hS)) fun r s' h => ?_
    cases r with
    | error e => exact (hCX H e s' h).elim
    | ok fl =>
      cases fl with
      | next => exact False.elim h
      | brk => exact False.elim h
      | cont => exact False.elim h
      | ret u =>
        obtain ⟨v, H', os, bare, un, hok', r', q⟩ := h
        have q' : v = .bl true := q
        subst q'
        obtain rfl : u = Value.bool true := r'
        refine ⟨rfl, OldK.of_keep fun b o e => ?_, os, bare⟩
        cases q : H b with
        | none => exact un.keep b o e q (by intro z; exact absurd (show b ∈ ([] : List Addr) from z) (by simp)) (by simp)
        | some u =>
          rcases hO b with z | ⟨ob, xs, z⟩
          · rw [q] at z; cases z
          · have z2 := un.frzs b ob _ z
            obtain ⟨e1, _⟩ := hok b _ z
            obtain ⟨e2, _⟩ := hok' b _ z2
            rw [e] at e1; cases e1
            exact e2
  cases hk : K.lookup a with
  | some o =>
    -- the script is one of the module's own objects
    have e := KX a o hk
    rw [ha] at e
    cases e
    refine core (fun _ => none) (fun _ => .inl rfl) (.inr ⟨_, vs.toArray, _, hk, rfl, rfl, rfl, by rw [List.size_toArray, lenV]; exact hl, by simpa using rv⟩) (fun b u z => by have z' : (none : Option HO) = some u := z; cases z') (fun b z => absurd rfl z) fun z => absurd rfl z
  | none =>
    refine core (fun b => if b = a then some (.frz { cls := .type "list", data := .seq vs.toArray } (.lst (ns.map V.int))) else none) (fun b => ?_) (.inl (.inr ⟨{ cls := .type "list", data := .seq vs.toArray }, if_pos rfl⟩)) (fun b u z => ?_) (fun b z => ?_) fun _ => hk
    · by_cases hb : b = a
      · exact .inr ⟨_, _, if_pos hb⟩
      · exact .inl (if_neg hb)
    · by_cases hb : b = a
      · have z' := (if_pos hb).symm.trans z
        cases z'
        subst hb
        exact ⟨ha, by rw [List.length_map]; exact hl, vs, _, rv, ha⟩
      · have z' := (if_neg hb).symm.trans z
        cases z'
    · by_cases hb : b = a
      · exact hb
      · exact absurd (if_neg hb) z
end L2

namespace L2
open PySem PySem.Spec PyProof.Rows

/-- the goal that k_head leaves (case hc), from the law's promise. F gives the function object fd (K's own) once, then the promise over every base -/
theorem walk_of {l : PySem.W.OpenLaw} {n k : Nat} {q : Program} {loose : List Str} {XP : (Str → Option Value) → Heap → Prop} {YP : World → Heap → Prop} {d : DefRec} {K : Params → PySem.W.Frag} {CX : World → CXT} {sp : World → Sp} {x : Str}
    (hn : l.most = some n) (hn2 : n ≤ sizeLine) (hdf : d.params.defaults = []) (hr : Room k callerA)
    (hY : ∀ (w : World) (h : Heap), YP w h → (K w.params).In h)
    (F : ∀ (w : World) (mg : Str → Option Value) (fa : Addr) (h : Heap), (K w.params).In h → h.Ns mainGlobals mg → mg d.name = some (.ref fa) →
      ∃ fd : FuncData, (∀ (s : Shared) (u : Value), BindsTo s fd ⟨[u], []⟩ [(x, u)]) ∧
        ∀ base : Heap, (K w.params).In base → base.Ns mainGlobals mg → FnOk l.prog w (K w.params) mg base (CX w) k fa fd [x] (sp w))
    (hsp : ∀ (w : World) (H : Hp) (a : Addr) (ns : List Int), ns.length ≤ n → Only H → SqL (K w.params) H a (ns.map V.int) → sp w [.ref a] H (fun v _ => v = .bl true) fun _ _ _ => False)
    (hCX : ∀ (w : World) (H : Hp) (s : Shared) (e : Value) (s' : Shared), CX w [] H s (fun _ _ _ => False) e s' → False) :
    PySem.W.WalkO q loose XP YP l.row.toRowW d [] (fun f vs => PySem.call f vs) := by
  refine Att.attach_call hn hdf fun w s₀ s₁ mg mb fa o pm cd doc a vs ns G Y ho hd hcd hmg hobj hints hlen hg => ?_
  have KX := hY w _ Y
  obtain ⟨fd, hb, hF⟩ := F w mg fa _ KX G.T.g hmg
  exact law_call KX G.T.g G.T.b G.T.builtins G.T.nolimit hg hobj hints (Nat.le_trans hlen hn2) hr hF hb (fun H hO hS => hsp w H a ns hlen hO hS) fun H e s' => hCX w H s₁ e s'
end L2

/- THE LAST THEOREM (shape; LID, My.* are yours):
   My.Adr: a structure of the addresses that your layer names (classes, functions); My.Txt K t: a structure (Prop) of the equations over K;
   My.txt_mk : {K} {implicit addresses ..} (e1 : nsIn K mainGlobals "law" = some (some (.ref f))) (e2 : K.lookup f = some ⟨oc, od, .func (fnOf "law" "law" params body scope dV kV doc pm an cdv ct), sl⟩) (e3 : codeIn K cdv "law" = true) .. : ∃ t, My.Txt K t

set_option maxRecDepth 100000 in
set_option maxHeartbeats 0 in
(the tactic k_is has no namespace: write k_is) -/

/-! SHORT WORDS over the layer: a def of the text, its body, what a loop and a test want. -/
namespace L2
open PySem PySem.Spec PyProof.Rows

/-! ### the text by places -/
def defArgs (s : Stmt) : Arguments := match s with
  | .FunctionDef _ a _ _ _ _ _ _ _ _ => a
  | _ => { posonlyargs := [], args := [], vararg := none, kwonlyargs := [], kw_defaults := [], kwarg := none, defaults := [] }
def defBody (s : Stmt) : List Stmt := match s with
  | .FunctionDef _ _ b _ _ _ _ _ _ _ => b
  | _ => []
def defScope (s : Stmt) : Scope := match s with
  | .FunctionDef _ _ _ _ _ _ sc _ _ _ => sc
  | _ => { kind := .function, names := [], isGenerator := false, isCoroutine := false }

/-! ### no exception leaves a def -/
abbrev CX0 : CXT := fun _ _ _ _ _ _ => False
abbrev E0 : XK := fun _ _ _ => False
theorem pass0 {X : Cx} : Passes CX0 X E0 := fun _ _ _ _ _ _ _ h => h.elim

/-! ### a def (or method) of the text as it stands behind the top -/
structure Fun (K : PySem.W.Frag) (x qual : Str) (st : Stmt) (f : Addr) (fd : FuncData) : Prop where
  ex : ∃ (oc : Value) (od : Option Addr) (kV doc pm : Value) (an : Option Addr) (cdv ct : Value) (osl : Array (Option Value)),
    fd = PySem.W.fnOf x qual (defArgs st) (defBody st) (defScope st) .none kV doc pm an cdv ct ∧ K.lookup f = some ⟨oc, od, .func fd, osl⟩ ∧ PySem.W.codeIn K cdv qual = true
  kp : PySem.W.keepIn K (.ref f) = true
section
variable {P : Program} {w : World} {K : PySem.W.Frag} {mg : Str → Option Value} {base : Heap}
/-- THE RULE for a def: its body as a term of rules, and the reading of that term -/
theorem Fun.ok {x qual : Str} {st : Stmt} {f : Addr} {fd : FuncData} {N ps : List Str} {k : Nat} {sp : Sp} (F : Fun K x qual st f fd) (S : FnScope N ps (defScope st)) (len : ∀ vs H Q E, sp vs H Q E → vs.length = ps.length)
    (hbody : ∀ (cdv : Value) (A : Around) (outer : List Env) (s : Shared) (H : Hp) (vs : List V) (Q : VK) (E : XK), Room k (A.deeper (envOfC qual (defScope st) s.heap.objs.size f cdv)) → sp vs H Q E →
      ∃ t, PSs (cxOf CX0 P w K mg base N qual (defScope st) f cdv A outer s H E).nox (defBody st) t ∧ t { nx := fun _ H' => Q .non H', rt := Q } (start N vs) H) : FnOk P w K mg base CX0 (k + 1) f fd ps sp := by
  obtain ⟨oc, od, kV, doc, pm, an, cdv, ct, osl, rfl, lk, hcd⟩ := F.ex
  refine fn_of lk hcd S len fun A outer s H vs Q E hr hsp => ?_
  obtain ⟨t, h, q⟩ := hbody cdv A outer s H vs Q E hr hsp
  exact ⟨t, h.nox, q⟩
/-- how its arguments bind (no defaults): h is «fun _ _ _ _ _ _ us hl => match us, hl with | [_, _], _ => rfl», one _ a parameter -/
theorem Fun.binds {x qual : Str} {st : Stmt} {f : Addr} {fd : FuncData} {ps : List Str} (F : Fun K x qual st f fd)
    (h : ∀ (kV doc pm : Value) (an : Option Addr) (cdv ct : Value) (us : List Value), us.length = ps.length → bindArgs (PySem.W.fnOf x qual (defArgs st) (defBody st) (defScope st) .none kV doc pm an cdv ct) ⟨us, []⟩ = pure (ps.zip us)) : Binds K fd ps [] := by
  obtain ⟨oc, od, kV, doc, pm, an, cdv, ct, osl, rfl, lk, hcd⟩ := F.ex
  exact .all (h kV doc pm an cdv ct)
theorem fun_mk {x qual : Str} {st : Stmt} {f : Addr} {oc : Value} {od an : Option Addr} {osl : Array (Option Value)} {kV doc pm cdv ct : Value} (l : K.lookup f = some ⟨oc, od, .func (PySem.W.fnOf x qual (defArgs st) (defBody st) (defScope st) .none kV doc pm an cdv ct), osl⟩)
    (c : PySem.W.codeIn K cdv qual = true) (k : PySem.W.keepIn K (.ref f) = true) : Fun K x qual st f (PySem.W.fnOf x qual (defArgs st) (defBody st) (defScope st) .none kV doc pm an cdv ct) := ⟨⟨oc, od, kV, doc, pm, an, cdv, ct, osl, rfl, l, c⟩, k⟩
end
theorem hu_of {A : Around} {k : Nat} (hr : Room k A) : A.units + 1 < cLine := Nat.lt_of_le_of_lt (Nat.add_le_add_left (by decide : 1 ≤ 64) _) hr.units
theorem small1000 {n : Nat} (h : n ≤ 1000) : n < sizeLine := Nat.lt_of_le_of_lt h (by decide)

/-! ### expressions in short: the name that stands in the i-th slot -/
section
variable {X : Cx}
theorem pv (i : Nat) {x : Str} {pos : Pos} (hN : X.N[i]? = some x := by rfl) (hv : Vis X.env.scope x := by first | exact Or.inl rfl | exact Or.inr (Or.inl rfl) | exact Or.inr (Or.inr rfl)) (hd : (x == ("__debug__" : Str)) = false := by decide)
    (hcd : (x == ("__classdict__" : Str)) = false := by decide) : PE X (.Name x pos) (tVar i) := pe_var hN hv hd hcd
end

/-! ### tests -/
theorem iteF {A B : Prop} (h : B) : if false = true then A else B := by
  rw [if_neg Bool.false_ne_true]
  exact h
theorem iteT {A B : Prop} (h : A) : if true = true then A else B := by
  rw [if_pos rfl]
  exact h
theorem ite2 {c A B : Prop} [Decidable c] (h1 : c → A) (h2 : ¬ c → B) : if c then A else B := by
  by_cases h : c
  · rw [if_pos h]
    exact h1 h
  · rw [if_neg h]
    exact h2 h
theorem iteNS {c A B : Prop} [Decidable c] (hc : c) (h : B) : if (!decide c) = true then A else B := by
  rw [decide_eq_true hc]
  exact iteF h

/-! ### heaps -/
/-- all that was tracked is as it was -/
def Same (H H' : Hp) : Prop := ∀ b o, H b = some o → H' b = some o
theorem Same.refl (H : Hp) : Same H H := fun _ _ h => h
theorem Same.trans {H H1 H2 : Hp} (a : Same H H1) (b : Same H1 H2) : Same H H2 := fun c o h => b c o (a c o h)
theorem Same.free {H H' : Hp} (e : Same H H') {l : Addr} (h : H' l = Option.none) : H l = Option.none := by
  cases q : H l with
  | none => rfl
  | some o =>
    rw [e l o q] at h
    cases h
/-! ### a dict's pairs: keys that differ -/
section
variable {κ : Type} [DecidableEq κ]
theorem valV_in {kvs : List (κ × V)} {k : κ} {v : V} (h : valV kvs k = some v) : k ∈ kvs.map (·.1) := by
  have q : (kvs.any fun kv => decide (kv.1 = k)) = true := by
    rw [valV_any, h]
    all_goals rfl
  obtain ⟨p, hp, e⟩ := List.any_eq_true.mp q
  exact List.mem_map.mpr ⟨p, hp, of_decide_eq_true e⟩
theorem nd_snoc : ∀ {l : List κ} {k : κ}, l.Nodup → ¬ k ∈ l → (l ++ [k]).Nodup
  | [], k, _, _ => by simp
  | a :: r, k, h, hk => by
    obtain ⟨h1, h2⟩ := List.nodup_cons.mp h
    show (a :: (r ++ [k])).Nodup
    refine List.nodup_cons.mpr ⟨fun m => ?_, nd_snoc h2 fun m => hk (List.mem_cons.mpr (Or.inr m))⟩
    rcases List.mem_append.mp m with q | q
    · exact h1 q
    · exact hk (List.mem_cons.mpr (Or.inl (List.mem_singleton.mp q).symm))
end
end L2

set_option linter.all false
namespace Fx
/-! ### the boards that the scripts draw -/
def atD (ns : List Int) (k : Nat) : Int := ns.getD k 0
structure Brd where
  n : Nat
  lanes : List (Int × Int)
  coops : List Int
def menuA : List Int := [2, 3, 4, 5, 1, 3, 7, 5]
def menuB : List Int := [2, 3, 4, 5, 1, 3, 4, 5]
def cntOf (menu : List Int) (ns : List Int) : Int := menu.getD (atD ns 0 % 8).toNat 0
def limOf (seed : Int) : Int := [1, 2, 3, 7].getD (seed % 4).toNat 0
def laneOf (n : Int) (x : Int) (k : Nat) : Int × Int := ((x / 7 + (k : Int)) % n, (x + (k : Int) / n) % n)
def stepL (n lim : Int) (ns : List Int) (st : List (Int × Int) × List Int) (k : Nat) : List (Int × Int) × List Int :=
  if laneOf n (atD ns k) k ∉ st.1 ∧ st.2.getD (laneOf n (atD ns k) k).1.toNat 0 < lim then
    (st.1 ++ [laneOf n (atD ns k) k], st.2.set (laneOf n (atD ns k) k).1.toNat (st.2.getD (laneOf n (atD ns k) k).1.toNat 0 + 1))
  else st
def runL (n lim : Int) (ns : List Int) : Nat → List (Int × Int) × List Int
  | 0 => ([], List.replicate n.toNat 0)
  | i + 1 => stepL n lim ns (runL n lim ns i) (i + 2)
def divs : List Int := [45, 90, 180, 360, 720, 1440, 2880]
def coopA (seed : Int) (y : Nat) : Bool := !decide (seed / 3 % 5 = 4) && decide ((seed / 3 + (y : Int)) % 4 = 1)
def coopB (seed : Int) (y : Nat) : Bool := decide (seed / divs.getD y 0 % 2 = 1)
def coopOf (seed : Int) (y : Nat) : Bool := if seed / 15 % 3 = 1 then coopB seed y else coopA seed y
def coopsUp (seed : Int) (n : Nat) : List Int := ((List.range n).filter (coopOf seed)).map Int.ofNat
def boardOf (menu : List Int) (ns : List Int) : Brd where
  n := (cntOf menu ns).toNat
  lanes := (runL (cntOf menu ns) (limOf (atD ns 1)) ns (ns.length - 2)).1
  coops := coopsUp (atD ns 1) (cntOf menu ns).toNat
theorem getD_mem {l : List Int} {i : Nat} (h : i < l.length) : l.getD i 0 ∈ l := by
  rw [List.getD_eq_getElem?_getD, List.getElem?_eq_getElem h]
  exact List.getElem_mem h
theorem mod_lt8 (x : Int) : (x % 8).toNat < 8 := by omega
theorem cnt_mem {menu ns : List Int} (h : menu.length = 8) : cntOf menu ns ∈ menu := getD_mem (by rw [h]; exact mod_lt8 _)
theorem cnt_pos {menu ns : List Int} (h : menu = menuA ∨ menu = menuB) : 1 ≤ cntOf menu ns ∧ cntOf menu ns ≤ 7 := by
  have e : menu.length = 8 := by rcases h with rfl | rfl <;> rfl
  have m := cnt_mem (ns := ns) e
  generalize cntOf menu ns = c at m
  rcases h with rfl | rfl
  · simp [menuA] at m; omega
  · simp [menuB] at m; omega
theorem laneOf_in {n : Int} (hn : 1 ≤ n) (x : Int) (k : Nat) : (0 ≤ (laneOf n x k).1 ∧ (laneOf n x k).1 < n) ∧ 0 ≤ (laneOf n x k).2 ∧ (laneOf n x k).2 < n :=
  ⟨⟨Int.emod_nonneg _ (by omega), Int.emod_lt_of_pos _ (by omega)⟩, Int.emod_nonneg _ (by omega), Int.emod_lt_of_pos _ (by omega)⟩
structure GoodL (n : Int) (i : Nat) (st : List (Int × Int) × List Int) : Prop where
  len : st.1.length ≤ i
  outs : st.2.length = n.toNat
  dup : st.1.Nodup
  rng : ∀ l ∈ st.1, (0 ≤ l.1 ∧ l.1 < n) ∧ 0 ≤ l.2 ∧ l.2 < n
theorem runL_good {n lim : Int} {ns : List Int} (hn : 1 ≤ n) : ∀ i, GoodL n i (runL n lim ns i)
  | 0 => ⟨Nat.le_refl _, by simp [runL], List.nodup_nil, fun l h => nomatch h⟩
  | i + 1 => by
    have ih := runL_good (lim := lim) (ns := ns) hn i
    show GoodL n (i + 1) (stepL n lim ns (runL n lim ns i) (i + 2))
    unfold stepL
    split
    · rename_i h
      refine ⟨?_, ?_, ?_, ?_⟩
      · show (_ ++ [_]).length ≤ _
        rw [List.length_append]
        exact Nat.succ_le_succ ih.len
      · show (List.set _ _ _).length = _
        rw [List.length_set]
        exact ih.outs
      · show (_ ++ [_]).Nodup
        rw [List.nodup_append]
        refine ⟨ih.dup, by simp, ?_⟩
        intro a ha b hb e
        simp at hb
        subst e hb
        exact h.1 ha
      · intro l hl
        have hl : l ∈ _ ++ [_] := hl
        rcases List.mem_append.mp hl with z | z
        · exact ih.rng l z
        · simp at z
          subst z
          exact laneOf_in hn _ _
    · exact ⟨Nat.le_succ_of_le ih.len, ih.outs, ih.dup, ih.rng⟩
structure Good (B : Brd) : Prop where
  pos : 1 ≤ B.n
  few : B.n ≤ 7
  len : B.lanes.length ≤ 61
  dup : B.lanes.Nodup
  rng : ∀ l ∈ B.lanes, (0 ≤ l.1 ∧ l.1 < (B.n : Int)) ∧ 0 ≤ l.2 ∧ l.2 < (B.n : Int)
  cin : ∀ c ∈ B.coops, 0 ≤ c ∧ c < (B.n : Int)
  cnd : B.coops.Nodup
theorem coops_ord (seed : Int) (n : Nat) : (coopsUp seed n).Pairwise (· < ·) := by
  unfold coopsUp
  rw [List.pairwise_map]
  exact (List.pairwise_lt_range.imp fun h => Int.ofNat_lt.mpr h).filter _
theorem coops_in {seed : Int} {n : Nat} {c : Int} (h : c ∈ coopsUp seed n) : 0 ≤ c ∧ c < (n : Int) := by
  unfold coopsUp at h
  obtain ⟨k, hk, e⟩ := List.mem_map.mp h
  have := List.mem_range.mp (List.mem_filter.mp hk).1
  have e : (k : Int) = c := e
  omega
theorem boardOf_good {menu ns : List Int} (h : menu = menuA ∨ menu = menuB) (hl : ns.length ≤ 63) : Good (boardOf menu ns) := by
  have c := cnt_pos (ns := ns) h
  have g := runL_good (lim := limOf (atD ns 1)) (ns := ns) c.1 (ns.length - 2)
  have e : ((boardOf menu ns).n : Int) = cntOf menu ns := by
    show (((cntOf menu ns).toNat : Nat) : Int) = _
    omega
  refine ⟨?_, ?_, ?_, g.dup, ?_, ?_, ?_⟩
  · show 1 ≤ (cntOf menu ns).toNat
    omega
  · show (cntOf menu ns).toNat ≤ 7
    omega
  · have := g.len
    show (runL _ _ _ _).1.length ≤ 61
    omega
  · intro l hl
    rw [e]
    exact g.rng l hl
  · intro c hc
    exact coops_in (n := (boardOf menu ns).n) hc
  · exact (coops_ord _ _).imp fun h => Int.ne_of_lt h
theorem sub_lenI {l m : List Int} (nd : l.Nodup) (sub : ∀ c ∈ l, c ∈ m) : l.length ≤ m.length := by
  induction l generalizing m with
  | nil => exact Nat.zero_le _
  | cons c r ih =>
    obtain ⟨n1, n2⟩ := List.nodup_cons.mp nd
    have hc := sub c List.mem_cons_self
    have := ih (m := m.erase c) n2 fun d hd => by
      refine (List.mem_erase_of_ne ?_).mpr (sub d (List.mem_cons_of_mem _ hd))
      rintro rfl
      exact n1 hd
    rw [List.length_erase_of_mem hc] at this
    have := List.length_pos_of_mem hc
    rw [List.length_cons]
    omega
theorem coops7 {B : Brd} (g : Good B) : B.coops.length ≤ 7 := by
  have : B.coops.length ≤ ((List.range B.n).map Int.ofNat).length := sub_lenI g.cnd fun c hc => by
    obtain ⟨h0, h1⟩ := g.cin c hc
    exact List.mem_map.mpr ⟨c.toNat, List.mem_range.mpr (by omega), by show ((c.toNat : Nat) : Int) = c; omega⟩
  rw [List.length_map, List.length_range] at this
  have := g.few
  omega
/-! ### ways -/
def waysL (lanes : List (Int × Int)) (y : Int) : List Int := (lanes.filter fun l => decide (l.1 = y)).map (·.2)
theorem mem_waysL {lanes : List (Int × Int)} {y z : Int} : z ∈ waysL lanes y ↔ (y, z) ∈ lanes := by
  unfold waysL
  constructor
  · intro h
    obtain ⟨l, hl, e⟩ := List.mem_map.mp h
    obtain ⟨h1, h2⟩ := List.mem_filter.mp hl
    have h2 : l.1 = y := of_decide_eq_true h2
    obtain ⟨a, b⟩ := l
    simp only at h2 e
    subst h2 e
    exact h1
  · intro h
    exact List.mem_map.mpr ⟨(y, z), List.mem_filter.mpr ⟨h, by simp⟩, rfl⟩
end Fx

set_option linter.all false
namespace Fx
/-! ### verdicts, worked out by rounds -/
structure Game (P : Type) where
  win : P → Option Bool
  turn : P → Bool
  mv : P → List P
def mins : List Nat → Nat
  | [] => 0
  | [n] => n
  | n :: m :: r => min n (mins (m :: r))
def maxs : List Nat → Nat
  | [] => 0
  | n :: r => max n (maxs r)
theorem mins_mem : ∀ {l : List Nat}, l ≠ [] → mins l ∈ l
  | [], h => absurd rfl h
  | [n], _ => by simp [mins]
  | n :: m :: r, _ => by
    have ih := mins_mem (l := m :: r) (by simp)
    rw [mins]
    by_cases h : n ≤ mins (m :: r)
    · rw [Nat.min_eq_left h]; exact List.mem_cons_self
    · rw [Nat.min_eq_right (by omega)]; exact List.mem_cons_of_mem _ ih
theorem mins_le : ∀ {l : List Nat} {x : Nat}, x ∈ l → mins l ≤ x
  | [n], x, h => by simp at h; simp [mins, h]
  | n :: m :: r, x, h => by
    rw [mins]
    rcases List.mem_cons.mp h with z | z
    · subst z; exact Nat.min_le_left _ _
    · exact Nat.le_trans (Nat.min_le_right _ _) (mins_le z)
theorem mins_eq {l : List Nat} {n : Nat} (h : n ∈ l) (h' : ∀ m ∈ l, n ≤ m) : mins l = n := by
  have h1 := mins_le h
  have h2 := h' _ (mins_mem (List.ne_nil_of_mem h))
  omega
theorem maxs_le : ∀ {l : List Nat} {x : Nat}, x ∈ l → x ≤ maxs l
  | n :: r, x, h => by
    rw [maxs]
    rcases List.mem_cons.mp h with z | z
    · subst z; exact Nat.le_max_left _ _
    · exact Nat.le_trans (maxs_le z) (Nat.le_max_right _ _)
theorem maxs_mem : ∀ {l : List Nat}, l ≠ [] → maxs l ∈ l
  | [], h => absurd rfl h
  | [n], _ => by simp [maxs]
  | n :: m :: r, _ => by
    have ih := maxs_mem (l := m :: r) (by simp)
    rw [maxs]
    by_cases h : n ≤ maxs (m :: r)
    · rw [Nat.max_eq_right h]; exact List.mem_cons_of_mem _ ih
    · rw [Nat.max_eq_left (by omega)]; exact List.mem_cons_self
theorem maxs_eq {l : List Nat} {n : Nat} (h : n ∈ l) (h' : ∀ m ∈ l, m ≤ n) : maxs l = n := by
  have h1 := maxs_le h
  have h2 := h' _ (maxs_mem (List.ne_nil_of_mem h))
  omega
abbrev Val := Option (Bool × Nat)
variable {P : Type}
def goodOf (t : Bool) (l : List (Bool × Nat)) : List Nat := (l.filter fun v => v.1 == t).map (·.2)
def valueOf (g : Game P) (k : P → Val) (p : P) : Val :=
  if goodOf (g.turn p) ((g.mv p).filterMap k) ≠ [] then some (g.turn p, mins (goodOf (g.turn p) ((g.mv p).filterMap k)) + 1)
  else if ((g.mv p).filterMap k).length < (g.mv p).length then none
  else some (!g.turn p, maxs (((g.mv p).filterMap k).map (·.2)) + 1)
theorem mem_good {g : Game P} {k : P → Val} {p : P} {t : Bool} {n : Nat} : n ∈ goodOf t ((g.mv p).filterMap k) ↔ ∃ q ∈ g.mv p, k q = some (t, n) := by
  unfold goodOf
  constructor
  · intro h
    obtain ⟨⟨s, m⟩, hv, e⟩ := List.mem_map.mp h
    obtain ⟨h1, h2⟩ := List.mem_filter.mp hv
    obtain ⟨q, hq, e2⟩ := List.mem_filterMap.mp h1
    have h2 : s = t := by simpa using h2
    have e : m = n := e
    subst h2 e
    exact ⟨q, hq, e2⟩
  · rintro ⟨q, hq, e⟩
    exact List.mem_map.mpr ⟨(t, n), List.mem_filter.mpr ⟨List.mem_filterMap.mpr ⟨q, hq, e⟩, by simp⟩, rfl⟩
theorem fm_len {α β : Type} (f : α → Option β) : ∀ l : List α, (l.filterMap f).length ≤ l.length ∧ ((l.filterMap f).length < l.length ↔ ∃ x ∈ l, f x = none)
  | [] => by simp
  | a :: r => by
    have ih := fm_len f r
    cases e : f a with
    | none =>
      rw [List.filterMap_cons, e]
      refine ⟨by simp; omega, ⟨fun _ => ⟨a, List.mem_cons_self, e⟩, fun _ => by simp; omega⟩⟩
    | some b =>
      rw [List.filterMap_cons, e]
      refine ⟨by simp; omega, ?_⟩
      simp only [List.length_cons]
      rw [Nat.add_lt_add_iff_right, ih.2]
      constructor
      · rintro ⟨x, hx, ex⟩; exact ⟨x, List.mem_cons_of_mem _ hx, ex⟩
      · rintro ⟨x, hx, ex⟩
        rcases List.mem_cons.mp hx with z | z
        · subst z; rw [e] at ex; cases ex
        · exact ⟨x, z, ex⟩
/-- some move wins in n more, none sooner -/
structure IsWin (g : Game P) (k : P → Val) (p : P) (n : Nat) : Prop where
  has : ∃ q ∈ g.mv p, k q = some (g.turn p, n)
  least : ∀ q ∈ g.mv p, ∀ m, k q = some (g.turn p, m) → n ≤ m
/-- every move loses, in n more at the latest -/
structure IsLose (g : Game P) (k : P → Val) (p : P) (n : Nat) : Prop where
  all : ∀ q ∈ g.mv p, ∃ m, k q = some (!g.turn p, m) ∧ m ≤ n
  has : ∃ q ∈ g.mv p, k q = some (!g.turn p, n)
variable {g : Game P} {k : P → Val} {p : P} {n : Nat}
theorem valueOf_win (h : IsWin g k p n) : valueOf g k p = some (g.turn p, n + 1) := by
  have hm : n ∈ goodOf (g.turn p) ((g.mv p).filterMap k) := mem_good.mpr h.has
  unfold valueOf
  rw [if_pos (List.ne_nil_of_mem hm), mins_eq hm fun m hm => ?_]
  obtain ⟨q, hq, e⟩ := mem_good.mp hm
  exact h.least q hq m e
theorem not_self (b : Bool) : (!b) ≠ b := by cases b <;> simp
theorem IsLose.nogood (h : IsLose g k p n) : goodOf (g.turn p) ((g.mv p).filterMap k) = [] := by
  cases e : goodOf (g.turn p) ((g.mv p).filterMap k) with
  | nil => rfl
  | cons m r =>
    have hm : m ∈ goodOf (g.turn p) ((g.mv p).filterMap k) := by rw [e]; exact List.mem_cons_self
    obtain ⟨q, hq, e1⟩ := mem_good.mp hm
    obtain ⟨m', e2, _⟩ := h.all q hq
    rw [e1] at e2
    exact absurd (Prod.mk.inj (Option.some.inj e2)).1.symm (not_self _)
theorem valueOf_lose (h : IsLose g k p n) : valueOf g k p = some (!g.turn p, n + 1) := by
  unfold valueOf
  rw [if_neg (by rw [h.nogood]; simp), if_neg]
  · congr 2
    rw [maxs_eq (n := n)]
    · obtain ⟨q, hq, e⟩ := h.has
      exact List.mem_map.mpr ⟨_, List.mem_filterMap.mpr ⟨q, hq, e⟩, rfl⟩
    · intro m hm
      obtain ⟨⟨s, m'⟩, hv, e⟩ := List.mem_map.mp hm
      obtain ⟨q, hq, e2⟩ := List.mem_filterMap.mp hv
      obtain ⟨m2, e3, hle⟩ := h.all q hq
      rw [e2] at e3
      have := (Prod.mk.inj (Option.some.inj e3)).2
      have e : m' = m := e
      omega
  · intro z
    obtain ⟨q, hq, e⟩ := (fm_len k (g.mv p)).2.mp z
    obtain ⟨m, e2, _⟩ := h.all q hq
    rw [e] at e2
    cases e2
theorem valueOf_some {v : Bool × Nat} (h : valueOf g k p = some v) (hne : g.mv p ≠ []) : (∃ n, v = (g.turn p, n + 1) ∧ IsWin g k p n) ∨ ∃ n, v = (!g.turn p, n + 1) ∧ IsLose g k p n := by
  unfold valueOf at h
  split at h
  · rename_i hg
    refine .inl ⟨_, (Option.some.inj h).symm, mem_good.mp (mins_mem hg), fun q hq m e => mins_le (mem_good.mpr ⟨q, hq, e⟩)⟩
  · rename_i hg
    split at h
    · cases h
    · rename_i hl
      have all : ∀ q ∈ g.mv p, ∃ m, k q = some (!g.turn p, m) := fun q hq => by
        cases e : k q with
        | none => exact absurd ((fm_len k (g.mv p)).2.mpr ⟨q, hq, e⟩) hl
        | some w =>
          obtain ⟨s, m⟩ := w
          have : s ≠ g.turn p := fun z => by
            subst z
            have := mem_good (g := g) (t := g.turn p) (n := m).mpr ⟨q, hq, e⟩
            simp only [ne_eq, Decidable.not_not] at hg
            rw [hg] at this
            cases this
          have e2 : s = !g.turn p := by revert this; cases s <;> cases g.turn p <;> simp
          rw [e2]
          exact ⟨m, rfl⟩
      have hne2 : ((g.mv p).filterMap k).map (·.2) ≠ [] := by
        cases em : g.mv p with
        | nil => exact absurd em hne
        | cons a r =>
          obtain ⟨m, e⟩ := all a (by rw [em]; exact List.mem_cons_self)
          rw [List.filterMap_cons, e]
          simp
      refine .inr ⟨_, (Option.some.inj h).symm, fun q hq => ?_, ?_⟩
      · obtain ⟨m, e⟩ := all q hq
        exact ⟨m, e, maxs_le (List.mem_map.mpr ⟨_, List.mem_filterMap.mpr ⟨q, hq, e⟩, rfl⟩)⟩
      · obtain ⟨⟨s, m⟩, hv, e⟩ := List.mem_map.mp (maxs_mem hne2)
        obtain ⟨q, hq, e2⟩ := List.mem_filterMap.mp hv
        obtain ⟨m', e3⟩ := all q hq
        rw [e2] at e3
        have := (Prod.mk.inj (Option.some.inj e3)).1
        have e : m = maxs (((g.mv p).filterMap k).map (·.2)) := e
        refine ⟨q, hq, ?_⟩
        rw [e2, this, ← e]
theorem valueOf_none : valueOf g k p = none ↔ (∀ q ∈ g.mv p, ∀ m, k q ≠ some (g.turn p, m)) ∧ ∃ q ∈ g.mv p, k q = none := by
  unfold valueOf
  constructor
  · intro h
    split at h
    · cases h
    · rename_i hg
      simp only [ne_eq, Decidable.not_not] at hg
      split at h
      · rename_i hl
        refine ⟨fun q hq m e => ?_, (fm_len k (g.mv p)).2.mp hl⟩
        have := mem_good (g := g) (t := g.turn p) (n := m).mpr ⟨q, hq, e⟩
        rw [hg] at this
        cases this
      · cases h
  · rintro ⟨h1, h2⟩
    rw [if_neg, if_pos ((fm_len k (g.mv p)).2.mpr h2)]
    intro z
    obtain ⟨q, hq, e⟩ := mem_good.mp (mins_mem z)
    exact h1 q hq _ e
/-- what is known behind r rounds -/
def Kn (g : Game P) : Nat → P → Val
  | 0, p => (g.win p).map fun s => (s, 0)
  | r + 1, p => match Kn g r p with
    | some v => some v
    | none => valueOf g (Kn g r) p
theorem Kn_succ {r : Nat} {v : Bool × Nat} (h : Kn g r p = some v) : Kn g (r + 1) p = some v := by
  rw [Kn, h]
theorem Kn_mono {r s : Nat} {v : Bool × Nat} (h : Kn g r p = some v) (hs : r ≤ s) : Kn g s p = some v := by
  induction s with
  | zero => have : r = 0 := by omega
            subst this; exact h
  | succ s ih =>
    by_cases e : r = s + 1
    · subst e; exact h
    · exact Kn_succ (ih (by omega))
theorem Kn_new {r : Nat} (h : Kn g r p = none) : Kn g (r + 1) p = valueOf g (Kn g r) p := by rw [Kn, h]
/-- the game goes on only where there are moves -/
def Goes (g : Game P) : Prop := ∀ p, g.win p = none → g.mv p ≠ []
theorem Kn_win {r : Nat} {s : Bool} (h : g.win p = some s) : Kn g r p = some (s, 0) := Kn_mono (r := 0) (by rw [Kn, h]; rfl) (Nat.zero_le _)
theorem Kn_nowin {r : Nat} (h : Kn g r p = none) : g.win p = none := by
  cases e : g.win p with
  | none => rfl
  | some s => rw [Kn_win e] at h; cases h
/-- what is new behind a round has just that count -/
theorem Kn_count (hg : Goes g) : ∀ (r : Nat) (p : P) (s : Bool) (n : Nat), Kn g r p = some (s, n) → n ≤ r ∧ Kn g n p = some (s, n) := by
  intro r
  induction r with
  | zero =>
    intro p s n h
    have h0 := h
    rw [Kn] at h
    cases e : g.win p with
    | none => rw [e] at h; cases h
    | some t =>
      rw [e] at h
      have : n = 0 := (Prod.mk.inj (Option.some.inj h)).2.symm
      subst this
      exact ⟨Nat.le_refl _, h0⟩
  | succ r ih =>
    intro p s n h
    cases e : Kn g r p with
    | some v =>
      rw [Kn_succ e] at h
      cases h
      obtain ⟨h1, h2⟩ := ih p s n e
      exact ⟨by omega, h2⟩
    | none =>
      have h0 := h
      rw [Kn_new e] at h
      have hne := hg p (Kn_nowin e)
      have key : n = r + 1 := by
        rcases valueOf_some h hne with ⟨m, ev, hw⟩ | ⟨m, ev, hl⟩
        · have em : n = m + 1 := (Prod.mk.inj ev).2
          obtain ⟨q, hq, eq⟩ := hw.has
          obtain ⟨hm, hk⟩ := ih q _ _ eq
          have : m = r := by
            rcases Nat.lt_or_ge m r with z | z
            · exfalso
              -- at the round before it would have been found
              cases r with
              | zero => omega
              | succ r =>
                have e2 : Kn g r p = none := by
                  cases e3 : Kn g r p with
                  | none => rfl
                  | some v => rw [Kn_succ e3] at e; cases e
                rw [Kn_new e2] at e
                exact (valueOf_none.mp e).1 q hq m (Kn_mono hk (by omega))
            · omega
          omega
        · have em : n = m + 1 := (Prod.mk.inj ev).2
          obtain ⟨q, hq, eq⟩ := hl.has
          obtain ⟨hm, hk⟩ := ih q _ _ eq
          have : m = r := by
            rcases Nat.lt_or_ge m r with z | z
            · exfalso
              cases r with
              | zero => omega
              | succ r =>
                have e2 : Kn g r p = none := by
                  cases e3 : Kn g r p with
                  | none => rfl
                  | some v => rw [Kn_succ e3] at e; cases e
                rw [Kn_new e2] at e
                obtain ⟨q', hq', e4⟩ := (valueOf_none.mp e).2
                obtain ⟨m', e5, hle⟩ := hl.all q' hq'
                obtain ⟨_, hk'⟩ := ih q' _ _ e5
                rw [Kn_mono hk' (show m' ≤ r by omega)] at e4
                cases e4
            · omega
          omega
      subst key
      exact ⟨Nat.le_refl _, h0⟩
theorem fm_congr {α β : Type} {f f' : α → Option β} : ∀ {l : List α}, (∀ x ∈ l, f x = f' x) → l.filterMap f = l.filterMap f'
  | [], _ => rfl
  | a :: r, h => by
    rw [List.filterMap_cons, List.filterMap_cons, h a List.mem_cons_self, fm_congr fun x hx => h x (List.mem_cons_of_mem _ hx)]
/-- nothing new behind round r, among what moves lead to -/
theorem Kn_stop {r : Nat} (S : P → Prop) (hS : ∀ p, S p → ∀ q ∈ g.mv p, S q) (h : ∀ p, S p → Kn g (r + 1) p = Kn g r p) : ∀ s, r ≤ s → ∀ p, S p → Kn g s p = Kn g r p := by
  intro s
  induction s with
  | zero => intro hs p hp; have : r = 0 := by omega
            subst this; rfl
  | succ s ih =>
    intro hs p hp
    by_cases e : r = s + 1
    · subst e; rfl
    · have hrs : r ≤ s := by omega
      have e1 := ih hrs
      cases e2 : Kn g s p with
      | some v => rw [Kn_succ e2, ← e1 p hp, e2]
      | none =>
        rw [Kn_new e2]
        have e3 : Kn g r p = none := by rw [← e1 p hp]; exact e2
        have e4 := h p hp
        rw [Kn_new e3, e3] at e4
        rw [e3, ← e4]
        have c : ∀ q ∈ g.mv p, Kn g s q = Kn g r q := fun q hq => e1 q (hS p hp q hq)
        unfold valueOf
        rw [fm_congr c]
/-- how many of the list are known -/
def known (g : Game P) (ps : List P) (r : Nat) : Nat := (ps.filter fun p => (Kn g r p).isSome).length
theorem filter_len_le {α : Type} {f f' : α → Bool} : ∀ {l : List α}, (∀ x ∈ l, f x = true → f' x = true) → (l.filter f).length ≤ (l.filter f').length
  | [], _ => Nat.le_refl _
  | a :: r, h => by
    have ih := filter_len_le (l := r) fun x hx => h x (List.mem_cons_of_mem _ hx)
    have ha := h a List.mem_cons_self
    rw [List.filter_cons, List.filter_cons]
    cases e : f a with
    | true => rw [ha e]; simp; exact ih
    | false => cases e' : f' a <;> simp <;> omega
theorem filter_len_eq {α : Type} {f f' : α → Bool} : ∀ {l : List α}, (∀ x ∈ l, f x = true → f' x = true) → (l.filter f').length ≤ (l.filter f).length → ∀ x ∈ l, f' x = true → f x = true
  | [], _, _, x, hx, _ => nomatch hx
  | a :: r, h, hl, x, hx, hf => by
    have hr := fun x hx => h x (List.mem_cons_of_mem (a := x) a hx)
    have ha := h a List.mem_cons_self
    have le := filter_len_le (l := r) hr
    rw [List.filter_cons, List.filter_cons] at hl
    cases e : f a with
    | true =>
      rw [e, ha e] at hl
      simp at hl
      rcases List.mem_cons.mp hx with z | z
      · subst z; exact e
      · exact filter_len_eq hr hl x z hf
    | false =>
      cases e' : f' a with
      | true => rw [e, e'] at hl; simp at hl; omega
      | false =>
        rw [e, e'] at hl
        simp at hl
        rcases List.mem_cons.mp hx with z | z
        · subst z; rw [e'] at hf; cases hf
        · exact filter_len_eq hr hl x z hf
theorem known_le (g : Game P) (ps : List P) (r : Nat) : known g ps r ≤ ps.length := List.length_filter_le _ _
theorem isSome_some {α : Type} {o : Option α} (h : o.isSome = true) : ∃ v, o = some v := by cases o with | none => cases h | some v => exact ⟨v, rfl⟩
/-- either something is new, or it has come to rest -/
theorem known_step (g : Game P) (ps : List P) (r : Nat) : known g ps r < known g ps (r + 1) ∨ ∀ p ∈ ps, Kn g (r + 1) p = Kn g r p := by
  have up : ∀ p ∈ ps, (Kn g r p).isSome = true → (Kn g (r + 1) p).isSome = true := fun p _ h => by
    obtain ⟨v, e⟩ := isSome_some h
    rw [Kn_succ e]; rfl
  rcases Nat.lt_or_ge (known g ps r) (known g ps (r + 1)) with z | z
  · exact .inl z
  · refine .inr fun p hp => ?_
    cases e : Kn g r p with
    | some v => rw [Kn_succ e]
    | none =>
      cases e' : Kn g (r + 1) p with
      | none => rfl
      | some v =>
        have := filter_len_eq up z p hp (by rw [e']; rfl)
        rw [e] at this
        cases this
theorem rest_by (g : Game P) (ps : List P) : ∀ n, n ≤ known g ps n ∨ ∃ r, r < n ∧ ∀ p ∈ ps, Kn g (r + 1) p = Kn g r p
  | 0 => .inl (Nat.zero_le _)
  | n + 1 => by
    rcases rest_by g ps n with h | ⟨r, hr, h⟩
    · rcases known_step g ps n with z | z
      · exact .inl (by omega)
      · exact .inr ⟨n, by omega, z⟩
    · exact .inr ⟨r, by omega, h⟩
theorem rest_at (g : Game P) (ps : List P) : ∃ r, r ≤ ps.length ∧ ∀ p ∈ ps, Kn g (r + 1) p = Kn g r p := by
  rcases rest_by g ps (ps.length + 1) with h | ⟨r, hr, h⟩
  · have := known_le g ps (ps.length + 1)
    omega
  · exact ⟨r, by omega, h⟩
/-- a game whose positions are the list's -/
structure Closed (g : Game P) (ps : List P) : Prop where
  goes : Goes g
  stays : ∀ p ∈ ps, ∀ q ∈ g.mv p, q ∈ ps
variable {ps : List P}
/-- the verdicts: what is known in the end -/
def fin (g : Game P) (ps : List P) : P → Val := Kn g ps.length
theorem fin_rest (c : Closed g ps) {s : Nat} (hs : ps.length ≤ s) : ∀ p ∈ ps, Kn g s p = fin g ps p := by
  obtain ⟨r, hr, h⟩ := rest_at g ps
  have st := Kn_stop (· ∈ ps) c.stays h
  intro p hp
  unfold fin
  rw [st s (by omega) p hp, st ps.length hr p hp]
theorem fin_of {r : Nat} {v : Bool × Nat} (hp : p ∈ ps) (c : Closed g ps) (h : Kn g r p = some v) : fin g ps p = some v := by
  rw [← fin_rest c (s := max r ps.length) (Nat.le_max_right _ _) p hp]
  exact Kn_mono h (Nat.le_max_left _ _)
theorem fin_stop {r : Nat} (c : Closed g ps) (h : ∀ p ∈ ps, Kn g (r + 1) p = Kn g r p) : ∀ p ∈ ps, Kn g r p = fin g ps p := by
  intro p hp
  have st := Kn_stop (· ∈ ps) c.stays h
  rw [← st (max r ps.length) (Nat.le_max_left _ _) p hp]
  exact fin_rest c (Nat.le_max_right _ _) p hp
theorem fin_win {s : Bool} (h : g.win p = some s) : fin g ps p = some (s, 0) := Kn_win h
theorem fin_zero {s : Bool} {n : Nat} (h : g.win p = none) (hf : fin g ps p = some (s, n)) (hg : Goes g) : 1 ≤ n := by
  obtain ⟨_, h2⟩ := Kn_count hg _ _ _ _ hf
  cases n with
  | zero => rw [Kn, h] at h2; cases h2
  | succ n => omega
/-- the verdicts follow from those on the next positions -/
theorem fin_eq (c : Closed g ps) (hp : p ∈ ps) (h : g.win p = none) : fin g ps p = valueOf g (fin g ps) p := by
  cases e : fin g ps p with
  | none =>
    have e1 := fin_rest c (s := ps.length + 1) (Nat.le_succ _) p hp
    rw [Kn_new (show Kn g ps.length p = none from e), e] at e1
    exact e1.symm
  | some v =>
    obtain ⟨s, n⟩ := v
    obtain ⟨h1, h2⟩ := Kn_count c.goes _ _ _ _ e
    cases n with
    | zero => rw [Kn, h] at h2; cases h2
    | succ m =>
      have e0 : Kn g m p = none := by
        cases e3 : Kn g m p with
        | none => rfl
        | some v =>
          have := Kn_succ e3
          rw [h2] at this
          have := Option.some.inj this
          subst this
          have := (Kn_count c.goes _ _ _ _ e3).1
          omega
      have e1 := h2
      rw [Kn_new e0] at e1
      have up : ∀ q ∈ g.mv p, ∀ w, Kn g m q = some w → fin g ps q = some w := fun q hq w hw => fin_of (c.stays p hp q hq) c hw
      rcases valueOf_some e1 (c.goes p h) with ⟨m', ev, hw⟩ | ⟨m', ev, hl⟩
      · obtain ⟨es, em⟩ := Prod.mk.inj ev
        have em : m' = m := by omega
        subst em es
        rw [valueOf_win (n := m') ⟨?_, ?_⟩]
        · obtain ⟨q, hq, eq⟩ := hw.has
          exact ⟨q, hq, up q hq _ eq⟩
        · intro q hq n hn
          rcases Nat.lt_or_ge n m' with z | z
          · exact hw.least q hq n (Kn_mono (Kn_count c.goes _ _ _ _ hn).2 (by omega))
          · exact z
      · obtain ⟨es, em⟩ := Prod.mk.inj ev
        have em : m' = m := by omega
        subst em es
        rw [valueOf_lose (n := m') ⟨?_, ?_⟩]
        · intro q hq
          obtain ⟨n, hn, hle⟩ := hl.all q hq
          exact ⟨n, up q hq _ hn, hle⟩
        · obtain ⟨q, hq, eq⟩ := hl.has
          exact ⟨q, hq, up q hq _ eq⟩
/-- the mover wins: some move, none sooner -/
theorem fin_mover (c : Closed g ps) (hp : p ∈ ps) (h : g.win p = none) {n : Nat} (hf : fin g ps p = some (g.turn p, n)) : ∃ m, n = m + 1 ∧ IsWin g (fin g ps) p m := by
  rw [fin_eq c hp h] at hf
  rcases valueOf_some hf (c.goes p h) with ⟨m, ev, hw⟩ | ⟨m, ev, hl⟩
  · exact ⟨m, (Prod.mk.inj ev).2, hw⟩
  · exact absurd (Prod.mk.inj ev).1.symm (not_self _)
theorem fin_other (c : Closed g ps) (hp : p ∈ ps) (h : g.win p = none) {n : Nat} (hf : fin g ps p = some (!g.turn p, n)) : ∃ m, n = m + 1 ∧ IsLose g (fin g ps) p m := by
  rw [fin_eq c hp h] at hf
  rcases valueOf_some hf (c.goes p h) with ⟨m, ev, hw⟩ | ⟨m, ev, hl⟩
  · exact absurd (Prod.mk.inj ev).1 (not_self _)
  · exact ⟨m, (Prod.mk.inj ev).2, hl⟩
theorem fin_open (c : Closed g ps) (hp : p ∈ ps) (hf : fin g ps p = none) : g.win p = none ∧ (∀ q ∈ g.mv p, ∀ m, fin g ps q ≠ some (g.turn p, m)) ∧ ∃ q ∈ g.mv p, fin g ps q = none := by
  have h := Kn_nowin hf
  have e := fin_eq c hp h
  rw [hf] at e
  exact ⟨h, valueOf_none.mp e.symm⟩
theorem turn_or (t s : Bool) : s = t ∨ s = !t := by cases t <;> cases s <;> simp
/-! ### one coop more -/
end Fx

set_option linter.all false
namespace Fx
open PySem PySem.SetTable
/-! ### the table of a set: a search comes to an empty slot -/
def advN (t : SetTable) : Nat → Probe → Probe
  | 0, p => p
  | n + 1, p => advN t n (t.advance p)
theorem advN_add (t : SetTable) : ∀ (n m : Nat) (p : Probe), advN t (n + m) p = advN t m (advN t n p)
  | 0, m, p => by rw [Nat.zero_add]; rfl
  | n + 1, m, p => by rw [Nat.succ_add]; exact advN_add t n m (t.advance p)
def runSt (t : SetTable) (x : Nat × Nat) : Probe := { j := x.1, more := runEnd t.mask x.1 - x.1, i := x.1, perturb := x.2, dummy := none }
theorem start_run (t : SetTable) (h : Int) : t.probeStart h = runSt t (bits h % (t.mask + 1), bits h) := rfl
theorem adv_in (t : SetTable) : ∀ (k : Nat) (p : Probe), k ≤ p.more → advN t k p = { p with j := p.j + k, more := p.more - k }
  | 0, p, _ => rfl
  | k + 1, p, h => by
    have e : t.advance p = { p with j := p.j + 1, more := p.more - 1 } := by
      unfold SetTable.advance
      rw [if_pos (by omega)]
    show advN t k (t.advance p) = _
    rw [e, adv_in t k _ (by show k ≤ p.more - 1; omega)]
    simp only
    congr 1
    · omega
    · omega
theorem runEnd_le (mask i : Nat) : runEnd mask i - i ≤ 9 := by unfold runEnd; split <;> omega
theorem adv_run (t : SetTable) (x : Nat × Nat) : advN t (runEnd t.mask x.1 - x.1 + 1) (runSt t x) = runSt t (leap t.mask x.1 x.2) := by
  rw [advN_add, adv_in t (runEnd t.mask x.1 - x.1) (runSt t x) (Nat.le_refl _)]
  show t.advance _ = _
  unfold SetTable.advance
  rw [if_neg (by simp [runSt])]
  rfl
def lps (mask : Nat) : Nat → Nat × Nat → Nat × Nat
  | 0, x => x
  | n + 1, x => lps mask n (leap mask x.1 x.2)
theorem lps_add (mask : Nat) : ∀ (n m : Nat) (x : Nat × Nat), lps mask (n + m) x = lps mask m (lps mask n x)
  | 0, m, p => by rw [Nat.zero_add]; rfl
  | n + 1, m, p => by rw [Nat.succ_add]; exact lps_add mask n m _
theorem runs (t : SetTable) : ∀ (r : Nat) (x : Nat × Nat), ∃ N, N ≤ 10 * r ∧ advN t N (runSt t x) = runSt t (lps t.mask r x)
  | 0, x => ⟨0, Nat.le_refl _, rfl⟩
  | r + 1, x => by
    obtain ⟨N, h1, h2⟩ := runs t r (leap t.mask x.1 x.2)
    refine ⟨(runEnd t.mask x.1 - x.1 + 1) + N, ?_, ?_⟩
    · have := runEnd_le t.mask x.1
      omega
    · rw [advN_add, adv_run, h2]
      rfl
theorem lps_perturb (mask : Nat) : ∀ (n : Nat) (x : Nat × Nat), (lps mask n x).2 = x.2 / 32 ^ n
  | 0, x => by simp [lps]
  | n + 1, x => by
    show (lps mask n (leap mask x.1 x.2)).2 = _
    rw [lps_perturb mask n]
    show x.2 / 32 / 32 ^ n = _
    rw [Nat.div_div_eq_div_mul, Nat.pow_succ, Nat.mul_comm]
theorem bits_lt (h : Int) : bits h < 2 ^ 64 := by
  unfold bits
  have := Int.emod_lt_of_pos h (show (0 : Int) < 2 ^ 64 by decide)
  have := Int.emod_nonneg h (show (2 ^ 64 : Int) ≠ 0 by decide)
  omega
theorem lps_still (mask : Nat) {x : Nat × Nat} (h : x.2 < 2 ^ 64) : (lps mask 13 x).2 = 0 := by
  rw [lps_perturb]
  exact Nat.div_eq_of_lt (Nat.lt_of_lt_of_le h (by decide))
/-- the walk when nothing perturbs it -/
def itr (m : Nat) : Nat → Nat → Nat
  | 0, i => i
  | k + 1, i => itr m k ((i * 5 + 1) % m)
theorem lps_itr (mask : Nat) : ∀ (k i : Nat), lps mask k (i, 0) = (itr (mask + 1) k i, 0)
  | 0, i => rfl
  | k + 1, i => by
    show lps mask k (leap mask i 0) = _
    have e : leap mask i 0 = ((i * 5 + 1) % (mask + 1), 0) := rfl
    rw [e, lps_itr mask k]
    rfl
theorem itr_add (m : Nat) : ∀ (a b i : Nat), itr m (a + b) i = itr m b (itr m a i)
  | 0, b, i => by rw [Nat.zero_add]; rfl
  | a + 1, b, i => by rw [Nat.succ_add]; exact itr_add m a b _
def orbit (m : Nat) : Nat → Nat → List Nat
  | 0, _ => []
  | k + 1, i => i :: orbit m k ((i * 5 + 1) % m)
theorem mem_orbit (m : Nat) : ∀ (k i e : Nat), e ∈ orbit m k i → ∃ a, a < k ∧ itr m a i = e
  | 0, _, _, h => nomatch h
  | k + 1, i, e, h => by
    rcases List.mem_cons.mp h with z | z
    · exact ⟨0, by omega, z.symm⟩
    · obtain ⟨a, h1, h2⟩ := mem_orbit m k _ e z
      exact ⟨a + 1, by omega, h2⟩
def masks : List Nat := [7, 31, 127]
theorem orbit_all : ∀ mask ∈ masks, (∀ e ∈ List.range (mask + 1), e ∈ orbit (mask + 1) (mask + 1) 0) ∧ itr (mask + 1) (mask + 1) 0 = 0 := by decide +kernel
theorem reach {mask : Nat} (hm : mask ∈ masks) {i e : Nat} (hi : i < mask + 1) (he : e < mask + 1) : ∃ k, k < mask + 1 ∧ itr (mask + 1) k i = e := by
  obtain ⟨h1, h2⟩ := orbit_all mask hm
  obtain ⟨a, ha, ea⟩ := mem_orbit _ _ _ _ (h1 i (List.mem_range.mpr hi))
  obtain ⟨b, hb, eb⟩ := mem_orbit _ _ _ _ (h1 e (List.mem_range.mpr he))
  by_cases hab : a ≤ b
  · refine ⟨b - a, by omega, ?_⟩
    rw [← ea, ← itr_add, show a + (b - a) = b by omega, eb]
  · refine ⟨mask + 1 - a + b, by omega, ?_⟩
    rw [← ea, ← itr_add, show a + (mask + 1 - a + b) = (mask + 1) + b by omega, itr_add, h2, eb]
theorem lps_lt (mask : Nat) : ∀ (n : Nat) (x : Nat × Nat), x.1 < mask + 1 → (lps mask n x).1 < mask + 1
  | 0, x, h => h
  | n + 1, x, h => lps_lt mask n _ (Nat.mod_lt _ (Nat.succ_pos _))
/-- every slot is come to, at the beginning of a run -/
theorem visits {mask : Nat} (hm : mask ∈ masks) (h : Int) {e : Nat} (he : e < mask + 1) : ∃ r, r < mask + 14 ∧ (lps mask r (bits h % (mask + 1), bits h)).1 = e := by
  have hl := lps_lt mask 13 (bits h % (mask + 1), bits h) (Nat.mod_lt _ (Nat.succ_pos _))
  have hz := lps_still mask (x := (bits h % (mask + 1), bits h)) (bits_lt h)
  obtain ⟨k, hk, ek⟩ := reach hm hl he
  refine ⟨13 + k, by omega, ?_⟩
  rw [lps_add]
  have e2 : lps mask 13 (bits h % (mask + 1), bits h) = ((lps mask 13 (bits h % (mask + 1), bits h)).1, 0) := by rw [← hz]
  rw [e2, lps_itr]
  exact ek
theorem sub_len : ∀ {xs ys : List Nat}, xs.Nodup → (∀ x ∈ xs, x ∈ ys) → xs.length ≤ ys.length
  | [], _, _, _ => Nat.zero_le _
  | x :: xs, ys, hn, hs => by
    obtain ⟨h1, h2⟩ := List.nodup_cons.mp hn
    have hx := hs x List.mem_cons_self
    have := sub_len (xs := xs) (ys := ys.erase x) h2 fun z hz => by
      refine (List.mem_erase_of_ne ?_).mpr (hs z (List.mem_cons_of_mem _ hz))
      rintro rfl
      exact h1 hz
    rw [List.length_erase_of_mem hx] at this
    have := List.length_pos_of_mem hx
    rw [List.length_cons]
    omega
/-- a table without dummies, not too full -/
structure TabOk (n : Nat) (t : SetTable) : Prop where
  place : t.place.size = n
  dum : t.dummies = #[]
  mask : t.mask ∈ masks
  room : n < t.mask + 1
theorem has_nil (j : Nat) : SetTable.has #[] j = false := by
  unfold SetTable.has
  simp
theorem slot_of {t : SetTable} (hd : t.dummies = #[]) (j : Nat) : t.slot j = .empty ∨ ∃ i, t.slot j = .live i ∧ i < t.place.size := by
  unfold SetTable.slot
  simp only [hd, has_nil, Bool.false_eq_true, if_false]
  by_cases h : (t.place[below t.place j]? == some j) = true
  · rw [if_pos h]
    refine .inr ⟨_, rfl, ?_⟩
    have := eq_of_beq h
    exact (Array.getElem?_eq_some_iff.mp this).1
  · rw [if_neg h]
    exact .inl rfl
theorem free_slot {n : Nat} {t : SetTable} (ok : TabOk n t) : ∃ e, e < t.mask + 1 ∧ t.slot e = .empty := by
  have hne : ∃ e, e < t.mask + 1 ∧ e ∉ t.place.toList := by
    refine Classical.byContradiction fun hc => ?_
    have all : ∀ e ∈ List.range (t.mask + 1), e ∈ t.place.toList := fun e he => Classical.byContradiction fun z => hc ⟨e, List.mem_range.mp he, z⟩
    have := sub_len List.nodup_range all
    rw [List.length_range, Array.length_toList, ok.place] at this
    have := ok.room
    omega
  obtain ⟨e, he, hn⟩ := hne
  refine ⟨e, he, ?_⟩
  unfold SetTable.slot
  simp only [ok.dum, has_nil, Bool.false_eq_true, if_false]
  rw [if_neg]
  intro h
  have := eq_of_beq h
  obtain ⟨hlt, e2⟩ := Array.getElem?_eq_some_iff.mp this
  apply hn
  rw [← e2]
  simp
/-- some number of steps behind the start an empty slot is met -/
theorem meets_empty {n : Nat} {t : SetTable} (ok : TabOk n t) (h : Int) : ∃ N, N < 10 * turns t.mask ∧ t.slot (advN t N (t.probeStart h)).j = .empty := by
  obtain ⟨e, he, hs⟩ := free_slot ok
  obtain ⟨r, hr, er⟩ := visits ok.mask h he
  obtain ⟨N, h1, h2⟩ := runs t r (bits h % (t.mask + 1), bits h)
  refine ⟨N, by unfold turns; omega, ?_⟩
  rw [start_run, h2]
  show t.slot (lps t.mask r _).1 = _
  rw [er, hs]
theorem adv_dummy (t : SetTable) (p : Probe) : (t.advance p).dummy = p.dummy := by unfold SetTable.advance; split <;> rfl
/-- one search: the empty slot, or one with that hash on the way there -/
theorem go_spec {t : SetTable} (hd : t.dummies = #[]) (hashAt : Nat → Int) (h : Int) : ∀ (N F : Nat) (p : Probe), N < F → t.slot (advN t N p).j = .empty → p.dummy = none →
    (∃ j, probe.go t hashAt h F p = some (.empty j none)) ∨ ∃ k j i, k < N ∧ probe.go t hashAt h F p = some (.candidate j i (advN t (k + 1) p)) ∧ t.slot j = .live i ∧ i < t.place.size := by
  intro N
  induction N with
  | zero =>
    intro F p hF hs hp
    obtain ⟨F, rfl⟩ : ∃ F', F = F' + 1 := ⟨F - 1, by omega⟩
    left
    have hs : t.slot p.j = .empty := hs
    refine ⟨p.j, ?_⟩
    unfold probe.go
    rw [hs, hp]
  | succ N ih =>
    intro F p hF hs hp
    obtain ⟨F, rfl⟩ : ∃ F', F = F' + 1 := ⟨F - 1, by omega⟩
    rcases slot_of hd p.j with e | ⟨i, e, hi⟩
    · left
      refine ⟨p.j, ?_⟩
      unfold probe.go
      rw [e, hp]
    · unfold probe.go
      rw [e]
      simp only
      by_cases hh : (hashAt i == h) = true
      · rw [if_pos hh]
        exact .inr ⟨0, p.j, i, by omega, rfl, e, hi⟩
      · rw [if_neg hh]
        rcases ih F (t.advance p) (by omega) hs (by rw [adv_dummy]; exact hp) with z | ⟨k, j, i', hk, z, z2, z3⟩
        · exact .inl z
        · exact .inr ⟨k + 1, j, i', by omega, z, z2, z3⟩
/-! ### a table laid anew -/
theorem find_first {p : Nat → Bool} {n : Nat} (h0 : p 0 = true) (hn : 0 < n) : ∃ k, (List.range n).find? p = some k ∧ k < n ∧ p k = true := by
  cases e : (List.range n).find? p with
  | none =>
    have := List.find?_eq_none.mp e 0 (List.mem_range.mpr hn)
    rw [h0] at this
    exact absurd rfl this
  | some k => exact ⟨k, rfl, List.mem_range.mp (List.mem_of_find?_eq_some e), List.find?_some e⟩
/-- a free slot is found -/
theorem free_some {mask : Nat} (owner : Array (Option Nat)) : ∀ (r F : Nat) (x : Nat × Nat), r < F → (owner.getD (lps mask r x).1 (some 0)).isNone = true →
    ∃ j, layClean.free mask owner F x.1 x.2 = some j ∧ (owner.getD j (some 0)).isNone = true := by
  intro r
  induction r with
  | zero =>
    intro F x hF h
    obtain ⟨F, rfl⟩ : ∃ F', F = F' + 1 := ⟨F - 1, by omega⟩
    obtain ⟨k, e, _, hk⟩ := find_first (p := fun k => (owner.getD (x.1 + k) (some 0)).isNone) (n := runEnd mask x.1 + 1 - x.1) (by rw [Nat.add_zero]; exact h) (by unfold runEnd; split <;> omega)
    refine ⟨x.1 + k, ?_, hk⟩
    unfold layClean.free
    rw [e]
  | succ r ih =>
    intro F x hF h
    obtain ⟨F, rfl⟩ : ∃ F', F = F' + 1 := ⟨F - 1, by omega⟩
    unfold layClean.free
    cases e : (List.range (runEnd mask x.1 + 1 - x.1)).find? fun k => (owner.getD (x.1 + k) (some 0)).isNone with
    | some k =>
      have h2 := List.find?_some e
      exact ⟨x.1 + k, rfl, h2⟩
    | none => exact ih F (leap mask x.1 x.2) (by omega) h
def cntO (owner : Array (Option Nat)) : Nat := (owner.toList.filter (·.isSome)).length
structure LayOk (mask k : Nat) (owner : Array (Option Nat)) : Prop where
  size : owner.size = mask + 1
  cnt : cntO owner = k
  vals : ∀ v ∈ owner.toList, ∀ i, v = some i → i < k
theorem filter_set : ∀ {l : List (Option Nat)} {j k : Nat}, l[j]? = some none → ((l.set j (some k)).filter (·.isSome)).length = (l.filter (·.isSome)).length + 1
  | [], j, k, h => by simp at h
  | a :: r, 0, k, h => by
    simp at h
    subst h
    simp
  | a :: r, j + 1, k, h => by
    have ih := filter_set (l := r) (j := j) (k := k) (by simpa using h)
    rw [List.set_cons_succ, List.filter_cons, List.filter_cons]
    cases a <;> simp [ih]
theorem lay_step {mask k : Nat} {owner : Array (Option Nat)} (ok : LayOk mask k owner) (hm : mask ∈ masks) (hk : k < mask + 1) (h : Int) :
    ∃ j, layClean.free mask owner (turns mask) (bits h % (mask + 1)) (bits h) = some j ∧ LayOk mask (k + 1) (owner.setIfInBounds j (some k)) := by
  -- an empty place
  have hne : ∃ e, e < mask + 1 ∧ owner.toList[e]? = some none := by
    refine Classical.byContradiction fun hc => ?_
    have all : owner.toList.filter (·.isSome) = owner.toList := by
      rw [List.filter_eq_self]
      intro a ha
      obtain ⟨e, he, rfl⟩ := List.mem_iff_getElem.mp ha
      cases q : owner.toList[e] with
      | some v => rfl
      | none => exact absurd ⟨e, by rw [Array.length_toList, ok.size] at he; exact he, by rw [List.getElem?_eq_getElem he, q]⟩ hc
    have e1 := ok.cnt
    unfold cntO at e1
    rw [all, Array.length_toList, ok.size] at e1
    omega
  obtain ⟨e, he, hn⟩ := hne
  obtain ⟨r, hr, er⟩ := visits hm h he
  have hg : (owner.getD (lps mask r (bits h % (mask + 1), bits h)).1 (some 0)).isNone = true := by
    rw [er, Array.getD_eq_getD_getElem?, ← Array.getElem?_toList, hn]
    rfl
  obtain ⟨j, hj, hjn⟩ := free_some (mask := mask) owner r (turns mask) (bits h % (mask + 1), bits h) (by unfold turns; omega) hg
  refine ⟨j, hj, ?_, ?_, ?_⟩
  · rw [Array.size_setIfInBounds, ok.size]
  · have hl : owner.toList[j]? = some none := by
      rw [Array.getD_eq_getD_getElem?, ← Array.getElem?_toList] at hjn
      cases q : owner.toList[j]? with
      | none => rw [q] at hjn; cases hjn
      | some v => rw [q] at hjn; cases v with
        | none => rfl
        | some v => cases hjn
    unfold cntO
    rw [Array.toList_setIfInBounds, filter_set hl]
    have := ok.cnt
    unfold cntO at this
    omega
  · intro v hv i hi
    rw [Array.toList_setIfInBounds] at hv
    rcases List.mem_or_eq_of_mem_set hv with z | z
    · have := ok.vals v z i hi
      omega
    · rw [z] at hi
      cases hi
      omega
theorem lay_fold {mask : Nat} (hm : mask ∈ masks) : ∀ (hs : List Int) (k : Nat) (owner : Array (Option Nat)), LayOk mask k owner → k + hs.length ≤ mask →
    ∃ owner', hs.foldl (init := some (owner, k)) (fun acc h => do
      let (owner, k) ← acc
      let j ← layClean.free mask owner (turns mask) (bits h % (mask + 1)) (bits h)
      pure (owner.setIfInBounds j (some k), k + 1)) = some (owner', k + hs.length) ∧ LayOk mask (k + hs.length) owner'
  | [], k, owner, ok, _ => ⟨owner, rfl, ok⟩
  | h :: hs, k, owner, ok, hl => by
    rw [List.length_cons] at hl
    obtain ⟨j, hj, ok'⟩ := lay_step ok hm (by omega) h
    obtain ⟨o', e, ok2⟩ := lay_fold hm hs (k + 1) _ ok' (by omega)
    refine ⟨o', ?_, ?_⟩
    · rw [List.foldl_cons]
      have e1 : (do
        let (owner, k) ← some (owner, k)
        let j ← layClean.free mask owner (turns mask) (bits h % (mask + 1)) (bits h)
        pure (owner.setIfInBounds j (some k), k + 1) : Option (Array (Option Nat) × Nat)) = some (owner.setIfInBounds j (some k), k + 1) := by
        show (layClean.free mask owner (turns mask) (bits h % (mask + 1)) (bits h)).bind _ = _
        rw [hj]
        rfl
      rw [e1, e, List.length_cons]
      congr 2
      omega
    · rw [List.length_cons, show k + (hs.length + 1) = k + 1 + hs.length by omega]
      exact ok2
theorem lay_clean {mask : Nat} (hm : mask ∈ masks) (hs : Array Int) (hl : hs.size ≤ mask) : ∃ owner, layClean mask hs = some owner ∧ LayOk mask hs.size owner := by
  have ok0 : LayOk mask 0 (Array.replicate (mask + 1) none) := by
    refine ⟨by simp, ?_, ?_⟩
    · unfold cntO
      rw [Array.toList_replicate]
      simp
    · intro v hv i hi
      rw [Array.toList_replicate] at hv
      rw [List.eq_of_mem_replicate hv] at hi
      cases hi
  obtain ⟨o, e, ok⟩ := lay_fold hm hs.toList 0 _ ok0 (by rw [Array.length_toList]; omega)
  refine ⟨o, ?_, ?_⟩
  · unfold layClean
    rw [← Array.foldl_toList]
    rw [e]
    rfl
  · rw [Nat.zero_add, Array.length_toList] at ok
    exact ok
theorem fm_isSome {α : Type} (f : Nat → Option α) : ∀ l : List Nat, (l.filterMap f).length = (l.filter fun j => (f j).isSome).length
  | [] => rfl
  | a :: r => by
    rw [List.filterMap_cons, List.filter_cons]
    cases e : f a <;> simp [e, fm_isSome f r]
theorem filter_range {l : List (Option Nat)} : ∀ {n : Nat}, n = l.length → ((List.range n).filter fun j => (l[j]?.getD none).isSome).length = (l.filter (·.isSome)).length := by
  intro n hn
  subst hn
  have : (List.range l.length).map (fun j => l[j]?.getD none) = l := by
    apply List.ext_getElem
    · simp
    · intro i h1 h2
      simp at h1
      simp [h1]
  have e : (l.filter (·.isSome)).length = (((List.range l.length).map (fun j => l[j]?.getD none)).filter (·.isSome)).length := by rw [this]
  rw [e, List.filter_map, List.length_map]
  rfl
/-- the table laid anew takes all, in some order -/
theorem relaid_ok {mask finger moves : Nat} {led plain : Bool} (hm : mask ∈ masks) {hs : Array Int} (hl : hs.size ≤ mask) :
    ∃ t order, laid mask finger moves led plain hs = some (t, order) ∧ TabOk hs.size t ∧ t.mask = mask ∧ order.size = hs.size ∧ ∀ i ∈ order.toList, i < hs.size := by
  obtain ⟨owner, e, ok⟩ := lay_clean hm hs hl
  have hlen : ((List.range (mask + 1)).filterMap fun j => (owner.getD j none).map (j, ·)).length = hs.size := by
    rw [fm_isSome]
    have e2 : (fun j => ((owner.getD j none).map (j, ·) : Option (Nat × Nat)).isSome) = fun j => (owner.toList[j]?.getD none).isSome := by
      funext j
      rw [Option.isSome_map, Array.getD_eq_getD_getElem?, Array.getElem?_toList]
    rw [e2, filter_range (by rw [Array.length_toList, ok.size])]
    exact ok.cnt
  refine ⟨_, _, by unfold laid; rw [e]; rfl, ⟨?_, rfl, hm, ?_⟩, rfl, ?_, ?_⟩
  · simp only [List.size_toArray, List.length_map]
    exact hlen
  · simp only
    omega
  · simp only [List.size_toArray, List.length_map]
    exact hlen
  · intro i hi
    simp only [List.toList_toArray] at hi
    obtain ⟨⟨j, v⟩, hp, rfl⟩ := List.mem_map.mp hi
    obtain ⟨j', hj', ep⟩ := List.mem_filterMap.mp hp
    cases q : owner.getD j' none with
    | none => rw [q] at ep; cases ep
    | some z =>
      rw [q] at ep
      have ep : (j', z) = (j, v) := Option.some.inj ep
      obtain ⟨_, rfl⟩ := Prod.mk.inj ep
      have hmem : some z ∈ owner.toList := by
        rw [Array.getD_eq_getD_getElem?] at q
        cases q2 : owner[j']? with
        | none => rw [q2] at q; cases q
        | some w =>
          rw [q2] at q
          have q : w = some z := q
          subst q
          obtain ⟨hlt, e3⟩ := Array.getElem?_eq_some_iff.mp q2
          rw [← e3]
          simp
      exact ok.vals _ hmem z rfl
end Fx

set_option Elab.async false
set_option linter.all false
set_option maxRecDepth 100000
namespace L2
open PySem PySem.Spec PyProof.Rows

/-! ### a comprehension's block -/
theorem cellOf_some {env : Env} {n : Str} {c : Addr} (h : env.cells.lookup n = some c) : cellOf env n = pure c := by
  unfold cellOf; rw [h]
theorem closure_go (env : Env) : ∀ (names : List (Str × NameKind)) (acc : List (Str × Addr)), (∀ p ∈ names, p.2 = .free → ∃ c, env.cells.lookup p.1 = some c) →
    ∃ cl, (forIn names acc fun (x : Str × NameKind) (cs : List (Str × Addr)) => match x with
      | (name, kind) => if (kind == NameKind.free) = true then (do let c ← cellOf env name; pure (ForInStep.yield ((name, c) :: cs))) else pure (ForInStep.yield cs)) = (pure cl : Sem (List (Str × Addr))) ∧
      (∀ n c, cl.lookup n = some c → acc.lookup n = some c ∨ env.cells.lookup n = some c) ∧ (∀ n c, acc.lookup n = some c → ((n, NameKind.free) ∈ names → env.cells.lookup n = some c) → cl.lookup n = some c) ∧ ∀ n, (n, NameKind.free) ∈ names → cl.lookup n = env.cells.lookup n := by
  intro names
  induction names with
  | nil =>
    intro acc _
    exact ⟨acc, rfl, fun n c h => .inl h, fun n c h _ => h, fun n h => nomatch h⟩
  | cons p r ih =>
    intro acc hf
    obtain ⟨n, k⟩ := p
    by_cases hk : k = .free
    · subst hk
      obtain ⟨c, hc⟩ := hf (n, .free) List.mem_cons_self rfl
      have hc : env.cells.lookup n = some c := hc
      obtain ⟨cl, e, h1, h2, h3⟩ := ih ((n, c) :: acc) fun p hp => hf p (List.mem_cons_of_mem _ hp)
      refine ⟨cl, ?_, ?_, ?_, ?_⟩
      · simp only [List.forIn_cons, beq_self_eq_true, if_true, cellOf_some hc, pure_bind]
        exact e
      · intro m d hd
        rcases h1 m d hd with z | z
        · simp only [List.lookup_cons] at z
          by_cases hm : (m == n) = true
          · rw [hm] at z
            have hm' := eq_of_beq hm
            subst hm'
            cases z
            exact .inr hc
          · simp only [Bool.not_eq_true] at hm
            rw [hm] at z
            exact .inl z
        · exact .inr z
      · intro m d hd hm
        by_cases hmn : m = n
        · subst hmn
          have e1 := hm List.mem_cons_self
          refine h2 m d ?_ fun _ => e1
          rw [hc] at e1
          cases e1
          simp [List.lookup_cons]
        · refine h2 m d ?_ fun z => hm (List.mem_cons_of_mem _ z)
          have : (m == n) = false := by simpa using hmn
          simp only [List.lookup_cons, this]
          exact hd
      · intro m hm
        by_cases hmn : m = n
        · subst hmn
          rw [hc]
          exact h2 m c (by simp [List.lookup_cons]) fun _ => hc
        · rcases List.mem_cons.mp hm with z | z
          · exact absurd (Prod.mk.inj z).1 hmn
          · exact h3 m z
    · have hb : (k == NameKind.free) = false := by simpa using hk
      obtain ⟨cl, e, h1, h2, h3⟩ := ih acc fun p hp => hf p (List.mem_cons_of_mem _ hp)
      refine ⟨cl, ?_, h1, ?_, ?_⟩
      · simp only [List.forIn_cons, hb, Bool.false_eq_true, if_false, pure_bind]
        exact e
      · intro m d hd hm
        exact h2 m d hd fun z => hm (List.mem_cons_of_mem _ z)
      · intro m hm
        rcases List.mem_cons.mp hm with z | z
        · exact absurd (Prod.mk.inj z).2.symm hk
        · exact h3 m z
theorem closure_of {scope : Scope} {env : Env} (hf : ∀ p ∈ scope.names, p.2 = .free → ∃ c, env.cells.lookup p.1 = some c) :
    ∃ cl, closureFor scope env = pure cl ∧ (∀ n c, cl.lookup n = some c → env.cells.lookup n = some c) ∧ ∀ n, (n, NameKind.free) ∈ scope.names → cl.lookup n = env.cells.lookup n := by
  obtain ⟨cl, e, h1, _, h3⟩ := closure_go env scope.names [] hf
  refine ⟨cl, ?_, fun n c h => (h1 n c h).elim (fun z => nomatch z) id, h3⟩
  unfold closureFor
  first
  | (refine Eq.trans ?_ (congrArg (fun t => t >>= fun a => (pure a : Sem _)) e); rfl)
  | (simp only [bind_pure]; exact e)
  | exact e
theorem mem_of_lookup' {α : Type} : ∀ {l : List (Str × α)} {n : Str} {c : α}, l.lookup n = some c → (n, c) ∈ l
  | [], _, _, h => nomatch h
  | (m, d) :: r, n, c, h => by
    simp only [List.lookup_cons] at h
    by_cases e : (n == m) = true
    · rw [e] at h
      have e' := eq_of_beq e
      cases h
      subst e'
      exact List.mem_cons_self
    · simp only [Bool.not_eq_true] at e
      rw [e] at h
      exact List.mem_cons_of_mem _ (mem_of_lookup' h)
/-- in the block a free name stays one, or is called a cell -/
theorem lookup_relabel_free {env : Env} : ∀ {names : List (Str × NameKind)} {x : Str}, names.lookup x = some .free →
    (names.map fun (n, k) => if (k == NameKind.free && env.scope.kind == .function && env.kindOf n == some .cell) then (n, NameKind.cell) else (n, k)).lookup x = some .cell ∨
    (names.map fun (n, k) => if (k == NameKind.free && env.scope.kind == .function && env.kindOf n == some .cell) then (n, NameKind.cell) else (n, k)).lookup x = some .free
  | [], _, h => by simp at h
  | (n, k) :: r, x, h => by
    have ih := @lookup_relabel_free env r x
    show List.lookup x ((if (k == NameKind.free && env.scope.kind == .function && env.kindOf n == some .cell) = true then (n, NameKind.cell) else (n, k)) :: _) = _ ∨ List.lookup x ((if (k == NameKind.free && env.scope.kind == .function && env.kindOf n == some .cell) = true then (n, NameKind.cell) else (n, k)) :: _) = _
    cases hx : x == n with
    | true =>
      simp only [List.lookup_cons, hx] at h
      cases h
      by_cases hc : (NameKind.free == NameKind.free && env.scope.kind == .function && env.kindOf n == some .cell) = true
      · rw [if_pos hc]; left; simp only [List.lookup_cons, hx]
      · rw [if_neg hc]; right; simp only [List.lookup_cons, hx]
    | false =>
      simp only [List.lookup_cons, hx] at h
      by_cases hc : (k == NameKind.free && env.scope.kind == .function && env.kindOf n == some .cell) = true
      · rw [if_pos hc]; simp only [List.lookup_cons, hx]; exact ih h
      · rw [if_neg hc]; simp only [List.lookup_cons, hx]; exact ih h
/-- what is a cell or a free name in the block was a free one in the scope -/
theorem relabel_back {env : Env} : ∀ {names : List (Str × NameKind)} {x : Str}, (∀ y ∈ names, y.2 ≠ .cell) →
    ((names.map fun (n, k) => if (k == NameKind.free && env.scope.kind == .function && env.kindOf n == some .cell) then (n, NameKind.cell) else (n, k)).lookup x = some .cell ∨
    (names.map fun (n, k) => if (k == NameKind.free && env.scope.kind == .function && env.kindOf n == some .cell) then (n, NameKind.cell) else (n, k)).lookup x = some .free) → (x, NameKind.free) ∈ names
  | [], _, _, h => by simp at h
  | (n, k) :: r, x, hn, h => by
    have ih := @relabel_back env r x fun y hy => hn y (List.mem_cons_of_mem _ hy)
    have hk : k ≠ .cell := hn (n, k) List.mem_cons_self
    by_cases hc : (k == NameKind.free && env.scope.kind == .function && env.kindOf n == some .cell) = true
    · have hkf : k = .free := by
        simp only [Bool.and_eq_true, beq_iff_eq] at hc
        exact hc.1.1
      rw [List.map_cons] at h
      dsimp only at h
      rw [if_pos hc] at h
      cases hx : x == n with
      | true =>
        have := eq_of_beq hx
        subst this
        rw [hkf]
        exact List.mem_cons_self
      | false =>
        simp only [List.lookup_cons, hx] at h
        exact List.mem_cons_of_mem _ (ih h)
    · rw [List.map_cons] at h
      dsimp only at h
      rw [if_neg hc] at h
      cases hx : x == n with
      | true =>
        have := eq_of_beq hx
        subst this
        simp only [List.lookup_cons, hx] at h
        rcases h with h | h
        · exact absurd (Option.some.inj h) hk
        · rw [Option.some.inj h]
          exact List.mem_cons_self
      | false =>
        simp only [List.lookup_cons, hx] at h
        exact List.mem_cons_of_mem _ (ih h)

/-- the block's context -/
def Cx.inner (X : Cx) (scope : Scope) (cl : List (Str × Addr)) (N : List Str) (C : Addr) (fp : List Addr) (s : Shared) (H : Hp) : Cx where
  prog := X.prog
  w := X.w
  K := X.K
  mg := X.mg
  base := X.base
  A := X.A
  N := N
  s₀ := s
  H₀ := H
  env := compEnvC scope cl C X.env
  outer := X.stack
  stack := X.stack
  ex := fp
  fn := fun _ => false
  calm := true
  pn := []
  xe := fun _ _ => False
/-- the block's names: its own (none), and the free ones by their place outside -/
def inSt (ix : List (Option Nat)) (σ : St) : St := ix.map fun o => match o with | none => none | some j => (σ[j]?).getD none
structure CompScope (N₀ : List Str) (sc scope : Scope) (N : List Str) (ix : List (Option Nat)) : Prop where
  kind : scope.kind = .function
  nocell : ∀ y ∈ scope.names, y.2 ≠ .cell
  names : ∀ y ∈ scope.names, y.2 = .local → scope.names.lookup y.1 = some .local
  frees : ∀ y ∈ scope.names, y.2 = .free → sc.names.lookup y.1 = some .cell ∨ sc.names.lookup y.1 = some .free
  len : N.length = ix.length
  at_ : ∀ p ∈ N.zip ix, ∀ j, p.2 = some j → N₀[j]? = some p.1 ∧ scope.names.lookup p.1 = some .free
def csAt (N₀ : List Str) (scope : Scope) (p : Str × Option Nat) : Bool := match p.2 with
  | none => true
  | some j => decide (N₀[j]? = some p.1 ∧ scope.names.lookup p.1 = some .free)
def csOk (N₀ : List Str) (sc scope : Scope) (N : List Str) (ix : List (Option Nat)) : Bool :=
  decide (scope.kind = .function) && decide (∀ y ∈ scope.names, y.2 ≠ .cell) && decide (∀ y ∈ scope.names, y.2 = .local → scope.names.lookup y.1 = some .local) &&
  decide (∀ y ∈ scope.names, y.2 = .free → sc.names.lookup y.1 = some .cell ∨ sc.names.lookup y.1 = some .free) && decide (N.length = ix.length) && (N.zip ix).all (csAt N₀ scope)
theorem cs_mk {N₀ : List Str} {sc scope : Scope} {N : List Str} {ix : List (Option Nat)} (h : csOk N₀ sc scope N ix = true) : CompScope N₀ sc scope N ix := by
  unfold csOk at h
  simp only [Bool.and_eq_true, decide_eq_true_eq] at h
  obtain ⟨⟨⟨⟨⟨h1, h2⟩, h3⟩, h4⟩, h5⟩, h6⟩ := h
  refine ⟨h1, h2, h3, h4, h5, fun p hp j hj => ?_⟩
  have := List.all_eq_true.mp h6 p hp
  unfold csAt at this
  rw [hj] at this
  exact of_decide_eq_true this
/-- tests of a clause -/
def PTs (X : Cx) (ifs : List Expr) (t : TT) : Prop :=
  ∀ (pins : List (Addr × Obj)) (s : Shared) (σ : St) (H : Hp) (Q : Bool → Hp → Prop), Inv X pins σ H s → t σ H Q →
    wpAny (model X.prog X.w) X.A (forIn ifs true fun c r => if r = true then do let ok ← isTrue c X.env (eval c X.env); pure (ForInStep.yield ok) else pure (ForInStep.yield r)) (TP X pins σ Q) X.xe s
def ttT : TT := fun _ H Q => Q true H
theorem pts_nil {X : Cx} : PTs X [] ttT := fun _ _ _ H _ I h => wpAny_tests_nil ⟨H, I, h⟩
theorem pts_one {X : Cx} {c : Expr} {t : TT} (h : PT X c t) : PTs X [c] t := fun pins s σ H Q I hw => wpAny_tests_one (h pins s σ H Q I hw)

section
variable {X : Cx} {pins : List (Addr × Obj)} {σ : St} {H H2 : Hp} {s : Shared}
theorem inner_ok {scope : Scope} {cl : List (Str × Addr)} {N : List Str} {ix : List (Option Nat)} {C : Addr} {fp : List Addr} (I : Inv X pins σ H s) (hc : X.calm = true) (S : CompScope X.N X.env.scope scope N ix)
    (h1 : ∀ n c, cl.lookup n = some c → X.env.cells.lookup n = some c) (h2 : ∀ n, (n, NameKind.free) ∈ scope.names → cl.lookup n = X.env.cells.lookup n)
    (hf : ∀ b ∈ fp, FpOk X pins H b) (hlt : ∀ b ∈ fp, b < C) (hC : s.heap.objs.size ≤ C) : (X.inner scope cl N C fp s H).Ok where
  mod := I.ok.mod
  kind := S.kind
  glob := I.ok.glob
  blt := I.ok.blt
  above := hC
  inj := fun x y c e1 e2 => I.ok.inj x y c (h1 _ _ e1) (h1 _ _ e2)
  has := fun x hx => by
    have hm : (x, NameKind.free) ∈ scope.names := relabel_back (env := X.env) S.nocell hx
    obtain ⟨c, e⟩ := I.ok.has x (S.frees _ hm rfl)
    exact ⟨c, (h2 x hm).trans e⟩
  cab := fun x c hfn => nomatch hfn
  hd := fun _ => I.ok.hd hc
  frames := I.ok.frames
  stk := .inl rfl
  exf := fun b hb => ⟨Nat.ne_of_lt (hlt b hb), fun x c e => (hf b hb).2.2.2.2.1 x c (h1 _ _ e)⟩
  bs := I.bs
  bsz := Nat.le_trans I.ok.bsz I.sz
  noex := fun b o e hb => by
    rcases (hf b hb).2.2.2.1 with z | z
    · exact I.ok.noex b o e z
    · exact absurd (Nat.lt_of_lt_of_le (Heap.lt_size e) (Nat.le_trans I.ok.bsz z)) (Nat.lt_irrefl _)
  exfs := fun b hb z => by
    rcases List.mem_cons.mp (I.stkSub b z) with e | e
    · exact (hf b hb).2.1 e
    · exact (hf b hb).2.2.1 e
  funs := I.stack
  frf := I.stkFree
theorem inner_start {scope : Scope} {cl : List (Str × Addr)} {N : List Str} {ix : List (Option Nat)} {C : Addr} {fp : List Addr} {h₁ : Heap} {t' : Nat} (I : Inv X pins σ H s) (hc : X.calm = true) (S : CompScope X.N X.env.scope scope N ix)
    (h1 : ∀ n c, cl.lookup n = some c → X.env.cells.lookup n = some c) (h2 : ∀ n, (n, NameKind.free) ∈ scope.names → cl.lookup n = X.env.cells.lookup n)
    (hf : ∀ b ∈ fp, FpOk X pins H b) (hlt : ∀ b ∈ fp, b < C) (hC : s.heap.objs.size ≤ C) (hn : h₁.Ns C (fun _ => none)) (hk : ∀ b o, s.heap.get? b = some o → h₁.get? b = some o) :
    Inv (X.inner scope cl N C fp s H) [] (inSt ix σ) H { s with heap := h₁, toks := t' } where
  ok := inner_ok I hc S h1 h2 hf hlt hC
  os := rfl
  bare := I.bare
  base := Un.kept hk
  loc := by
    refine ⟨_, hn, fun i x v e1 e2 e3 => ?_⟩
    have e1 : N[i]? = some x := e1
    unfold inSt at e2
    rw [List.getElem?_map] at e2
    cases ei : ix[i]? with
    | none => rw [ei] at e2; cases e2
    | some o =>
      rw [ei] at e2
      cases o with
      | none => exact nomatch (Option.some.inj e2)
      | some j =>
        have e2 : (σ[j]?).getD none = some v := Option.some.inj e2
        have ej : σ[j]? = some (some v) := by
          cases q : σ[j]? with
          | none => rw [q] at e2; cases e2
          | some z => rw [q] at e2; have e2 : z = some v := e2; rw [e2]
        have hz : (N.zip ix)[i]? = some (x, some j) := by
          rw [List.getElem?_zip_eq_some]
          exact ⟨e1, ei⟩
        obtain ⟨hN, hfr⟩ := S.at_ _ (List.mem_of_getElem? hz) j rfl
        have hN : X.N[j]? = some x := hN
        have hfr : scope.names.lookup x = some .free := hfr
        have hm := mem_of_lookup' hfr
        have hout := S.frees _ hm rfl
        obtain ⟨m, hnm, hl⟩ := I.loc
        obtain ⟨u, r, l⟩ := hl j x v hN ej (.inr hout)
        refine ⟨u, r, .inr ?_⟩
        rcases l with ⟨lk, _⟩ | ⟨lk, c, lc, lv⟩
        · exfalso
          have lk : X.env.scope.names.lookup x = some .local := lk
          rcases hout with z | z <;> (rw [lk] at z; cases z)
        · refine ⟨lookup_relabel_free hfr, c, (h2 x hm).trans lc, ?_⟩
          obtain ⟨o, ho, hd⟩ := lv
          exact ⟨o, hk _ o ho, hd⟩
  cell := fun x c e => by
    obtain ⟨v, o, ho, hd⟩ := I.cell x c (h1 _ _ e)
    exact ⟨v, o, hk _ o ho, hd⟩
  free := I.hok.fresh hC
  freeC := fun x c e => I.freeC x c (h1 _ _ e)
  pin := fun p hp => nomatch hp
  hok := I.hok.kept hk
  len := by
    show (inSt ix σ).length = N.length
    unfold inSt
    rw [List.length_map, S.len]

/-- the reading of a comprehension: W is the word by the turn and a measure -/
def tComp (wi : TI) (ix : List (Option Nat)) (g : TG) (tt : TT) (te : TE) : TE := fun σ H Q => wi σ H fun J H1 => ∀ D, H1 D = none →
  ∃ W : Nat → Nat → St → Hp → Prop, (∃ m, W 0 m (inSt ix σ) (upd H1 D (.lst []))) ∧ ∀ i m τ H2, W i m τ H2 →
    (J.stop i H2 ∧ Q (.ref D) H2) ∨ (J.go i H2 ∧ ∃ N : St → Hp → Prop, (∀ τ' H', N τ' H' → ∃ m', m' < m ∧ W (i + 1) m' τ' H') ∧
      ∀ x H', J.yld i H2 x H' → g x τ H' fun τ2 H3 => tt τ2 H3 fun b H4 => if b = true then te τ2 H4 fun y H5 => ∃ ys, H5 D = some (.lst ys) ∧ ys.length < sizeLine ∧ N τ2 (upd H5 D (.lst (ys ++ [y]))) else N τ2 H4)
/-- the block, from the iterator on -/
theorem comp_core {elt tg iter : Expr} {ifs : List Expr} {scope : Scope} {cl : List (Str × Addr)} {pos : Pos} {N : List Str} {ix : List (Option Nat)} {g : TG} {tt : TT} {te : TE} {Q : VK}
    {RR : Value → Addr → Result → Shared → Prop} {E : Value → Shared → Prop} {it : Addr} {fp : List Addr} {tn : Nat → Heap → Prop} {J : It}
    (hc : X.calm = true) (S : CompScope X.N X.env.scope scope N ix)
    (h1 : ∀ n c, cl.lookup n = some c → X.env.cells.lookup n = some c) (h2 : ∀ n, (n, NameKind.free) ∈ scope.names → cl.lookup n = X.env.cells.lookup n)
    (hg : ∀ C fp s H, PG (X.inner scope cl N C fp s H) tg g) (ht : ∀ C fp s H, PTs (X.inner scope cl N C fp s H) ifs tt) (he : ∀ C fp s H, PE (X.inner scope cl N C fp s H) elt te)
    (I : Inv X pins σ H s) (T : Turn X.prog X.w X.K tg J fp it tn) (st : tn 0 s.heap) (hf : ∀ b ∈ fp, FpOk X pins H b)
    (R : ∀ D, H D = none → ∃ W : Nat → Nat → St → Hp → Prop, (∃ m, W 0 m (inSt ix σ) (upd H D (.lst []))) ∧ ∀ i m τ H2, W i m τ H2 →
      (J.stop i H2 ∧ Q (.ref D) H2) ∨ (J.go i H2 ∧ ∃ N : St → Hp → Prop, (∀ τ' H', N τ' H' → ∃ m', m' < m ∧ W (i + 1) m' τ' H') ∧
        ∀ x H', J.yld i H2 x H' → g x τ H' fun τ2 H3 => tt τ2 H3 fun b H4 => if b = true then te τ2 H4 fun y H5 => ∃ ys, H5 D = some (.lst ys) ∧ ys.length < sizeLine ∧ N τ2 (upd H5 D (.lst (ys ++ [y]))) else N τ2 H4))
    (hRR : ∀ D C s' H', Inv X pins σ H' s' → FpOk X pins H' C → (∃ m, s'.heap.Ns C m) → Q (.ref D) H' → RR (.ref D) C (.ok .next) s') :
    wpAny (model X.prog X.w) X.A (newList []) (fun acc s₃ => wpAny (model X.prog X.w) X.A (newFunctionEnv scope X.env.globals cl [] X.env.qual none .none (some X.env)) (fun cenv s₄ =>
      codeAny (model X.prog X.w) X.A (.compStart (.ListComp elt [⟨tg, iter, ifs, 0⟩] scope pos) 0 (.ref it) acc { cenv with scope := relabel scope X.env }) (RR acc cenv.locals) s₄) E s₃) E s := by
  refine wpAny_newObj_type (wpAny_newFunctionEnv S.nocell (by intro y hy; simp at hy) (fun h₁ hns₁ hsb₁ => ?_) S.kind)
  dsimp only at hns₁ hsb₁ ⊢
  have I3 : Inv X pins σ (upd H s.heap.objs.size (.lst [])) { s with heap := s.heap.push { cls := .type "list", data := .seq ([] : List Value).toArray }, toks := s.toks } := I.lnew .nil (Nat.zero_le _)
  obtain ⟨W, ⟨m0, w0⟩, turn⟩ := R s.heap.objs.size I.fresh
  generalize hD : s.heap.objs.size = D at *
  generalize hH3 : upd H D (.lst []) = H3 at *
  generalize hh3 : s.heap.push { cls := .type "list", data := .seq ([] : List Value).toArray } = h3 at *
  have hszD : D < h3.objs.size := by rw [← hh3, Heap.size_push, hD]; exact Nat.lt_succ_self _
  have hf3 : ∀ b ∈ fp, FpOk X pins H3 b := fun b hb => by
    refine ⟨?_, (hf b hb).2⟩
    rw [← hH3, upd_ne]
    · exact (hf b hb).1
    · obtain ⟨o, e, _⟩ := T.obj _ _ st b hb
      have := Heap.lt_size e
      rw [hD] at this
      exact Nat.ne_of_lt this
  have hlt : ∀ b ∈ fp, b < h3.objs.size := fun b hb => by
    obtain ⟨o, e, _⟩ := T.obj _ _ st b hb
    have := Heap.lt_size e
    rw [hD] at this
    exact Nat.lt_trans this hszD
  have old : ∀ b o, h3.get? b = some o → h₁.get? b = some o := fun b o e => hsb₁.extBut b o (Nat.ne_of_lt (Heap.lt_size e)) (Heap.get?_push_of_some _ e)
  have old2 : ∀ b o, s.heap.get? b = some o → h₁.get? b = some o := fun b o e => old b o (by rw [← hh3]; exact Heap.get?_push_of_some _ e)
  have st1 : tn 0 h₁ := T.keep _ _ _ st fun b _ o e => old2 b o e
  have J4 : Inv (X.inner scope cl N h3.objs.size fp { s with heap := h3, toks := s.toks } H3) [] (inSt ix σ) H3 { s with heap := h₁, toks := s.toks + ([] : List (Str × Value)).length } :=
    inner_start (h₁ := h₁) (t' := s.toks + ([] : List (Str × Value)).length) I3 hc S h1 h2 hf3 hlt (Nat.le_refl _) hns₁ old
  have hg := hg h3.objs.size fp { s with heap := h3, toks := s.toks } H3
  have ht := ht h3.objs.size fp { s with heap := h3, toks := s.toks } H3
  have he := he h3.objs.size fp { s with heap := h3, toks := s.toks } H3
  generalize hY : X.inner scope cl N h3.objs.size fp { s with heap := h3, toks := s.toks } H3 = Y at *
  have yp : Y.prog = X.prog := by rw [← hY]; rfl
  have yw : Y.w = X.w := by rw [← hY]; rfl
  have yK : Y.K = X.K := by rw [← hY]; rfl
  have yA : Y.A = X.A := by rw [← hY]; rfl
  have yc : Y.calm = true := by rw [← hY]; rfl
  have ye : Y.env = compEnvC scope cl h3.objs.size X.env := by rw [← hY]; rfl
  have yx : Y.xe = fun _ _ => False := by rw [← hY]; rfl
  have yfp : ∀ {H' : Hp}, (∀ b ∈ fp, H' b = none) → ∀ b ∈ fp, FpOk Y [] H' b := fun hn b hb => by
    rw [← hY]
    refine ⟨hn b hb, Nat.ne_of_lt (hlt b hb), fun z => ?_, .inl hb, fun x c e => (hf b hb).2.2.2.2.1 x c (h1 _ _ e), fun p hp => nomatch hp⟩
    rcases List.mem_cons.mp (I.stkSub b z) with e | e
    · exact (hf b hb).2.1 e
    · exact (hf b hb).2.2.1 e
  have loop : codeAny (model X.prog X.w) X.A (.compLoop (.ListComp elt [⟨tg, iter, ifs, 0⟩] scope pos) 0 (.ref it) (.ref D) (compEnvC scope cl h3.objs.size X.env)) (RR (.ref D) h3.objs.size)
      { s with heap := h₁, toks := s.toks + ([] : List (Str × Value)).length } := by
    refine codeAny_loop rfl (fun n s' => ∃ i τ H', Inv Y [] τ H' s' ∧ tn i s'.heap ∧ (∀ b ∈ fp, H' b = none) ∧ W i n τ H') ?_ m0 ⟨0, _, H3, J4, st1, fun b hb => (hf3 b hb).1, w0⟩
    rintro n s3 ⟨i, τ3, H3', I3', st3, fr3, w3⟩
    show wpAny _ X.A ((compTurn (.ListComp elt [⟨tg, iter, ifs, 0⟩] scope pos) 0 (.ref it) (.ref D) (compEnvC scope cl h3.objs.size X.env)).onRaise (fun x => do noteFrame x (compEnvC scope cl h3.objs.size X.env); theTreesLotGoes x)) _ _ s3
    refine wpAny_noted ?_
    rw [compTurn_list]
    refine wpAny_bind (wpAny_standAt (wpAny_bind ?_))
    rcases turn i n τ3 H3' w3 with ⟨stop, qn⟩ | ⟨go, NN, hN, step⟩
    · have d := T.done Y yp yw yK yc i [] s3 τ3 H3' (notedBy (model X.prog X.w) X.A (compEnvC scope cl h3.objs.size X.env) fun e s' => RR (.ref D) h3.objs.size (.error e) s') I3' (yfp fr3) st3 stop
      rw [yA] at d
      refine thn d fun r s4 ⟨hr, I4⟩ => ?_
      subst hr
      refine wpAny_pure ?_
      have ex : Inv X pins σ H3' s4 := by
        have q := I4
        rw [← hY] at q
        exact I3.call' q.os q.base q.hok q.bare fun b hb => ⟨(hf b hb).2.2.2.1, (hf b hb).2.1, (hf b hb).2.2.2.2.1, (hf b hb).2.2.2.2.2⟩
      have q := I4
      rw [← hY] at q
      exact hRR D h3.objs.size s4 H3' ex (I3.fpOk (Nat.le_refl _) q.free) (let ⟨m, hm, _⟩ := q.loc; ⟨m, hm⟩) qn
    · have d := T.item Y yp yw yK yc i [] s3 τ3 H3' (notedBy (model X.prog X.w) X.A (compEnvC scope cl h3.objs.size X.env) fun e s' => RR (.ref D) h3.objs.size (.error e) s') I3' (yfp fr3) st3 go
      rw [yA] at d
      refine thn d fun r s4 ⟨u, hr, h4⟩ => ?_
      subst hr
      refine wpAny_bind (thn h4 fun _ s5 ⟨x, H5, I5, r5, y5, st5, fr5⟩ => ?_)
      have I5' := I5.pinned (yfp fr5) (T.obj _ _ st5)
      have gg := hg _ s5 τ3 H5 x u _ I5' r5 (step x H5 y5)
      rw [yp, yw, yA, ye, yx] at gg
      refine wpAny_bind (wpAny_mono gg (fun _ s6 ⟨τ6, H6, I6, q6⟩ => ?_) fun _ _ z => z.elim)
      have tt' := ht _ s6 τ6 H6 _ I6 q6
      rw [yp, yw, yA, ye, yx] at tt'
      refine wpAny_bind (wpAny_mono tt' (fun ok s7 ⟨H7, I7, q7⟩ => ?_) fun _ _ z => z.elim)
      have again : ∀ {τ8 : St} {H8 : Hp} {s8 : Shared}, Inv Y ([] ++ pinsAt fp s5.heap) τ8 H8 s8 → NN τ8 H8 → ∃ m, m < n ∧ ∃ i τ' H', Inv Y [] τ' H' s8 ∧ tn i s8.heap ∧ (∀ b ∈ fp, H' b = none) ∧ W i m τ' H' := fun {τ8 H8 s8} I8 n8 => by
        obtain ⟨m', hm, w8⟩ := hN τ8 H8 n8
        refine ⟨m', hm, i + 1, τ8, H8, I8.unpinned, T.keep _ _ _ st5 fun b hb o e => (I8.pin (b, o) (List.mem_append_right _ (List.mem_append_right _ (mem_pinsAt hb e)))).1, fun b hb => ?_, w8⟩
        obtain ⟨o, e, d⟩ := T.obj _ _ st5 b hb
        exact (I8.pin (b, o) (List.mem_append_right _ (List.mem_append_right _ (mem_pinsAt hb e)))).2.1
      cases ok with
      | false =>
        exact wpAny_pure ⟨rfl, again I7 q7⟩
      | true =>
        have ee := he _ s7 τ6 H7 _ I7 q7
        rw [yp, yw, yA, ye, yx] at ee
        refine wpAny_bind (wpAny_bind (wpAny_mono ee (fun y s8 ⟨yv, H8, I8, r8, ys, hys, hlen, n8⟩ => ?_) fun _ _ z => z.elim))
        have ap := mt_append (X := Y) _ s8 τ6 H8 (.ref D) [yv] (.ref D) [y] (fun _ H9 => NN τ6 H9) I8 rfl (.cons r8 .nil) ⟨D, ys, yv, rfl, rfl, hys, hlen, n8⟩
        rw [yp, yw, yA, yx] at ap
        refine wpAny_bind (wpAny_mono ap (fun _ s9 ⟨_, H9, I9, _, n9⟩ => ?_) fun _ _ z => z.elim)
        exact wpAny_pure (wpAny_pure ⟨rfl, again I9 n9⟩)
  exact codeAny_compStart_list loop (T.self X.A 0 _ _ _ st1 loop)

variable {elt tg iter : Expr} {ifs : List Expr} {scope : Scope} {pos : Pos} {N : List Str} {ix : List (Option Nat)} {wi : TI} {g : TG} {tt : TT} {te : TE}
theorem comp_cl (I : Inv X pins σ H s) (S : CompScope X.N X.env.scope scope N ix) :
    ∃ cl, closureFor scope X.env = pure cl ∧ (∀ n c, cl.lookup n = some c → X.env.cells.lookup n = some c) ∧ ∀ n, (n, NameKind.free) ∈ scope.names → cl.lookup n = X.env.cells.lookup n :=
  closure_of fun p hp hk => I.ok.has p.1 (S.frees p hp hk)
/-- [elt for tg in iter if ..] as a value -/
theorem pe_comp (N : List Str) (ix : List (Option Nat)) (hc : X.calm = true) (S : CompScope X.N X.env.scope scope N ix) (hi : PI X tg iter wi)
    (hg : ∀ cl C fp s H, PG (X.inner scope cl N C fp s H) tg g) (ht : ∀ cl C fp s H, PTs (X.inner scope cl N C fp s H) ifs tt) (he : ∀ cl C fp s H, PE (X.inner scope cl N C fp s H) elt te)
    (hs : ∀ x, foldedSetIterable iter X.env x = pure x := by intro _; rfl) : PE X (.ListComp elt [⟨tg, iter, ifs, 0⟩] scope pos) (tComp wi ix g tt te) := by
  intro pins s σ H Q I h
  obtain ⟨cl, e0, h1, h2⟩ := comp_cl I S
  rw [eval_ListComp]
  refine wpAny_comprehension_free (use := none) rfl hs e0 S.kind S.names (thn (hi pins s σ H _ I h) fun xv s₁ h₁ => thn h₁ fun itv s₂ h₂ => ?_)
  obtain ⟨it, fp, tn, J, H', e, I', T, st, hf, R⟩ := h₂
  subst e
  refine comp_core (Q := Q) hc S h1 h2 (hg cl) (ht cl) (he cl) I' T st hf R fun D C s' H'' J' hC hn q => ?_
  obtain ⟨m, hm⟩ := hn
  refine ⟨m, hm, fun h' hs' => ⟨.ref D, H'', ?_, rfl, q⟩⟩
  obtain ⟨f0, f1, f2, f3, f4, f5⟩ := hC
  exact J'.turned (t' := s'.toks) (fun b o hb e => hs'.extBut b o hb e) f0 f1 f3 f4 f5
/-- name = [elt for tg in iter if ..] -/
def tCompS (i : Nat) (te : TE) : TS := fun D σ H => te σ H fun x H1 => D.nx (σ.set i (some x)) H1
theorem ps_setComp {i : Nat} {y : Str} {py spos : Pos} (N : List Str) (ix : List (Option Nat)) (hc : X.calm = true) (S : CompScope X.N X.env.scope scope N ix) (hi : PI X tg iter wi)
    (hg : ∀ cl C fp s H, PG (X.inner scope cl N C fp s H) tg g) (ht : ∀ cl C fp s H, PTs (X.inner scope cl N C fp s H) ifs tt) (he : ∀ cl C fp s H, PE (X.inner scope cl N C fp s H) elt te)
    (hN : X.N.Nodup) (hix : X.N[i]? = some y) (hy : Loc X.env.scope y)
    (hsw : swapsWith (.ListComp elt [⟨tg, iter, ifs, 0⟩] scope pos) (some (.Name y py)) spos.line X.env = pure true)
    (hs : ∀ x, foldedSetIterable iter X.env x = pure x := by intro _; rfl) (hf : X.fn y = true ∨ X.env.scope.names.lookup y = some .local := by first | exact .inl rfl | exact .inr rfl | assumption) :
    PS X (.Assign [.Name y py] (.ListComp elt [⟨tg, iter, ifs, 0⟩] scope pos) spos) (tCompS i (tComp wi ix g tt te)) := by
  intro pins s σ H D I h
  obtain ⟨cl, e0, h1, h2⟩ := comp_cl I S
  rw [exec_Assign_Name_used _ _ _ _ hsw]
  refine wpAny_bind (wpAny_standAt (wpAny_bind ?_))
  show wpAny _ X.A (do let _ ← comprehension (.ListComp elt [⟨tg, iter, ifs, 0⟩] scope pos) scope X.env _ (newList []) false (eval iter X.env) (some (assign (.Name y py) X.env))) _ _ s
  refine wpAny_bind (wpAny_mono (wpAny_comprehension_free (use := some (assign (.Name y py) X.env)) (Q := fun _ s' => SP X pins D .next s') rfl hs e0 S.kind S.names
    (thn (hi pins s σ H _ I h) fun xv s₁ h₁ => thn h₁ fun itv s₂ h₂ => ?_)) (fun _ s' hq => wpAny_pure (wpAny_pure hq)) fun _ _ e => e)
  obtain ⟨it, fp, tn, J, H', e, I', T, st, hf', R⟩ := h₂
  subst e
  refine comp_core (Q := fun x H1 => D.nx (σ.set i (some x)) H1) hc S h1 h2 (hg cl) (ht cl) (he cl) I' T st hf' R fun DD C s' H'' J' hC hn q => ?_
  obtain ⟨m, hm⟩ := hn
  obtain ⟨oC, es, ep, hoC, hdC, hrest⟩ := id hm
  obtain ⟨f0, f1, f2, f3, f4, f5⟩ := hC
  have J2 : Inv X (pins ++ [(C, oC)]) σ H'' s' := J'.pins_of fun p hp => (List.mem_append.mp hp).elim (fun z => J'.pin p (List.mem_append_right _ z)) fun z => by
    have e : p = (C, oC) := by simpa using z
    subst e
    exact ⟨hoC, f0, f1, f2, fun v z => by rw [hdC] at z; cases z⟩
  show wpAny _ X.A (assign (.Name y py) X.env (.ref DD)) _ _ _
  refine thn (pg_name (i := i) hN hix hy hf _ s' σ H'' (.ref DD) (.ref DD) (fun σ' H' => D.nx σ' H') J2 rfl q) fun _ s₄ ⟨σ4, H4, I4, q4⟩ => ?_
  obtain ⟨p1, p2, p3, p4, p5⟩ := I4.pin (C, oC) (List.mem_append_right _ (List.mem_append_right _ (by simp)))
  refine ⟨m, ⟨oC, es, ep, p1, hdC, hrest⟩, fun h' hs' => ⟨σ4, H4, ?_, q4⟩⟩
  exact (I4.unpinned).turned (t' := s₄.toks) (fun b o hb e => hs'.extBut b o hb e) p2 p3 f3 f4 f5
end
end L2

set_option Elab.async false
set_option linter.all false
set_option maxRecDepth 100000
namespace Fx
open PySem PySem.Spec PyProof.Rows L2

/-! ### data at values -/
mutual
inductive At (H : Hp) : V → PyData → Prop where
  | non : At H .non .none
  | bl (b : Bool) : At H (.bl b) (.bool b)
  | int (i : Int) : At H (.int i) (.int i)
  | str {x : Str} : PyData.canLay0 (.str x) = true → At H (.str x) (.str x)
  | tup {a : Addr} {xs : List V} {ds : List PyData} : H a = some (.tup xs) → AtAll H xs ds → At H (.ref a) (.tuple ds)
  | lst {a : Addr} {xs : List V} {ds : List PyData} : H a = some (.lst xs) → AtAll H xs ds → At H (.ref a) (.list ds)
inductive AtAll (H : Hp) : List V → List PyData → Prop where
  | nil : AtAll H [] []
  | cons {x : V} {d : PyData} {xs : List V} {ds : List PyData} : At H x d → AtAll H xs ds → AtAll H (x :: xs) (d :: ds)
end
mutual
theorem At.mono {H H' : Hp} (s : Same H H') : ∀ {v : V} {d : PyData}, At H v d → At H' v d
  | _, _, .non => .non
  | _, _, .bl b => .bl b
  | _, _, .int b => .int b
  | _, _, .str b => .str b
  | _, _, .tup h t => .tup (s _ _ h) (AtAll.mono s t)
  | _, _, .lst h t => .lst (s _ _ h) (AtAll.mono s t)
theorem AtAll.mono {H H' : Hp} (s : Same H H') : ∀ {v : List V} {d : List PyData}, AtAll H v d → AtAll H' v d
  | _, _, .nil => .nil
  | _, _, .cons h t => .cons (At.mono s h) (AtAll.mono s t)
end
theorem AtAll.length {H : Hp} : ∀ {v : List V} {d : List PyData}, AtAll H v d → v.length = d.length
  | _, _, .nil => rfl
  | _, _, .cons _ t => by rw [List.length_cons, List.length_cons, AtAll.length t]
theorem AtAll.get' {H : Hp} : ∀ {v : List V} {d : List PyData} {i : Nat} {x : V}, AtAll H v d → v[i]? = some x → ∃ e, d[i]? = some e ∧ At H x e
  | _, _, _, _, .nil, h => by simp at h
  | _, _, 0, _, .cons a t, h => by
    simp at h
    subst h
    exact ⟨_, rfl, a⟩
  | _, _, i + 1, _, .cons a t, h => by
    obtain ⟨x, h1, h2⟩ := AtAll.get' (i := i) t (by simpa using h)
    exact ⟨x, by simpa using h1, h2⟩
theorem AtAll.append {H : Hp} : ∀ {v w : List V} {d e : List PyData}, AtAll H v d → AtAll H w e → AtAll H (v ++ w) (d ++ e)
  | _, _, _, _, .nil, s => s
  | _, _, _, _, .cons a t, s => .cons a (AtAll.append t s)
theorem AtAll.one {H : Hp} {x : V} {d : PyData} (h : At H x d) : AtAll H [x] [d] := .cons h .nil
theorem AtAll.ints {H : Hp} : ∀ (ns : List Int), AtAll H (ns.map V.int) (ns.map PyData.int)
  | [] => .nil
  | n :: r => .cons (.int n) (AtAll.ints r)
theorem AtAll.ints_of {H : Hp} : ∀ {ns : List Int} {xs : List V}, AtAll H xs (ns.map PyData.int) → xs = ns.map V.int
  | [], _, .nil => rfl
  | n :: r, _, .cons (.int _) t => by rw [AtAll.ints_of t]; rfl
theorem AtAll.split {H : Hp} : ∀ {d e : List PyData} {v : List V}, AtAll H v (d ++ e) → ∃ v1 v2, v = v1 ++ v2 ∧ AtAll H v1 d ∧ AtAll H v2 e
  | [], _, v, h => ⟨[], v, rfl, .nil, h⟩
  | _ :: d, e, _, .cons a t => by
    obtain ⟨v1, v2, rfl, h1, h2⟩ := AtAll.split (d := d) t
    exact ⟨_ :: v1, v2, rfl, .cons a h1, h2⟩
mutual
theorem At.can {H : Hp} : ∀ {v : V} {d : PyData}, At H v d → d.canLay0 = true
  | _, _, .non => rfl
  | _, _, .bl _ => rfl
  | _, _, .int _ => rfl
  | _, _, .str h => h
  | _, _, .tup _ t => by rw [PyData.canLay0]; exact AtAll.can t
  | _, _, .lst _ t => by rw [PyData.canLay0]; exact AtAll.can t
theorem AtAll.can {H : Hp} : ∀ {v : List V} {d : List PyData}, AtAll H v d → PyData.canLayAll0 d = true
  | _, _, .nil => rfl
  | _, _, .cons a t => by rw [PyData.canLayAll0, At.can a, AtAll.can t]; rfl
end
mutual
theorem At.reads {P : Program} {w : World} {H : Hp} {h : Heap} (ok : HOk P w H h) : ∀ {v : V} {d : PyData} {u : Value}, At H v d → RelV v u → ∃ as, Reads h u d as
  | _, _, _, .non, r => by cases (show _ = Value.none from r); exact ⟨_, .none⟩
  | _, _, _, .bl b, r => by cases (show _ = Value.bool b from r); exact ⟨_, .bool b⟩
  | _, _, _, .int i, r => by obtain ⟨t, e⟩ := (show ∃ t, _ = Value.int i t from r); cases e; exact ⟨_, .int i t⟩
  | _, _, _, .str (x := x) _, r => by obtain ⟨t, e⟩ := (show ∃ t, _ = Value.str x t from r); cases e; exact ⟨_, .str x t⟩
  | _, _, _, .tup (a := a) (xs := xs) e t, r => by
    cases (show _ = Value.ref a from r)
    obtain ⟨_, its, rv, o, h1, h2, n, h3⟩ := (show ObjOk P w H h a (.tup xs) from ok a _ e)
    obtain ⟨as, q⟩ := AtAll.reads ok t rv
    exact ⟨_, .tuple h1 h2 h3 (by simpa using q)⟩
  | _, _, _, .lst (a := a) (xs := xs) e t, r => by
    cases (show _ = Value.ref a from r)
    obtain ⟨_, its, n, rv, h1⟩ := (show ObjOk P w H h a (.lst xs) from ok a _ e)
    obtain ⟨as, q⟩ := AtAll.reads ok t rv
    exact ⟨_, .list h1 rfl rfl (by simpa using q)⟩
theorem AtAll.reads {P : Program} {w : World} {H : Hp} {h : Heap} (ok : HOk P w H h) : ∀ {v : List V} {d : List PyData} {u : List Value}, AtAll H v d → Vals v u → ∃ as, ReadsAll h u d as
  | _, _, _, .nil, r => by cases r; exact ⟨_, .nil⟩
  | _, _, _, .cons a t, r => by
    cases r with
    | cons r rr =>
      obtain ⟨as, h1⟩ := At.reads ok a r
      obtain ⟨bs, h2⟩ := AtAll.reads ok t rr
      exact ⟨_, .cons h1 h2⟩
end

/-! ### the stable part and its growth -/
/-- G: what stays for good (part of H); the new things of G' were free in H -/
structure Ext (G H G' H' : Hp) : Prop where
  gg : Same G G'
  gh : Same G' H'
  hh : Same H H'
  new : ∀ a o, G' a = some o → G a = none → H a = none
theorem Ext.refl {G H : Hp} (s : Same G H) : Ext G H G H := ⟨Same.refl _, s, Same.refl _, fun a o h1 h2 => by rw [h1] at h2; cases h2⟩
theorem Ext.trans {G H G1 H1 G2 H2 : Hp} (a : Ext G H G1 H1) (b : Ext G1 H1 G2 H2) : Ext G H G2 H2 where
  gg := a.gg.trans b.gg
  gh := b.gh
  hh := a.hh.trans b.hh
  new := fun x o h1 h2 => by
    cases e : G1 x with
    | none => exact a.hh.free (b.new x o h1 e)
    | some u => exact a.new x u e h2
theorem same_upd {H : Hp} {p : Addr} {o : HO} (h : H p = none) : Same H (upd H p o) := fun b u e => by rw [upd_ne (ne_of_none e h)]; exact e
theorem _root_.L2.Same.upd2 {G H : Hp} {p : Addr} {o : HO} (s : Same G H) : Same (upd G p o) (upd H p o) := fun b u e => by
  by_cases hb : b = p
  · subst hb; rw [upd_same] at e ⊢; exact e
  · rw [upd_ne hb] at e ⊢; exact s b u e
theorem Ext.alloc {G H : Hp} {p : Addr} {o : HO} (s : Same G H) (h : H p = none) : Ext G H (upd G p o) (upd H p o) where
  gg := same_upd (s.free h)
  gh := s.upd2
  hh := same_upd h
  new := fun a u h1 h2 => by
    by_cases ha : a = p
    · subst ha; exact h
    · rw [upd_ne ha, h2] at h1; cases h1
/-- something that is not of the stable part has come or changed -/
theorem _root_.L2.Same.side {G H : Hp} {p : Addr} {o : HO} (s : Same G H) (h : G p = none) : Same G (upd H p o) := fun b u e => by
  rw [upd_ne (ne_of_none e h)]; exact s b u e
/-- a thing apart stays apart -/
theorem Ext.apart {G H G' H' : Hp} (x : Ext G H G' H') {a : Addr} {o : HO} (h1 : G a = none) (h2 : H a = some o) : G' a = none ∧ H' a = some o := by
  refine ⟨?_, x.hh a o h2⟩
  cases e : G' a with
  | none => rfl
  | some u => rw [x.new a u e h1] at h2; cases h2
/-- a thing apart joins the stable part -/
theorem Ext.join {G H : Hp} {a : Addr} {o : HO} (s : Same G H) (h : H a = some o) : Same (upd G a o) H := fun b u e => by
  by_cases hb : b = a
  · subst hb; rw [upd_same] at e; rw [h]; exact e
  · rw [upd_ne hb] at e; exact s b u e

/-! ### == and in, of data -/
section
variable {X : Cx}
def rEqD : R2 := fun x y H Q => ∃ d e, At H x d ∧ At H y e ∧ min d.depth e.depth ≤ 60 ∧ Q (.bl (PyData.eqv d e)) H
def rNeD : R2 := fun x y H Q => ∃ d e, At H x d ∧ At H y e ∧ min d.depth e.depth ≤ 60 ∧ Q (.bl (!PyData.eqv d e)) H
theorem op_eqD {k : Nat} (hr : Room k X.A) : OpR X (compareOp .Eq) rEqD := by
  intro pins s σ H x y v u Q I rx ry h
  obtain ⟨d, e, h1, h2, hd, q⟩ := h
  obtain ⟨as, r1⟩ := h1.reads I.hok rx
  obtain ⟨bs, r2⟩ := h2.reads I.hok ry
  have := hr.units
  exact SeqAt.compareEq_reads r1 r2 h1.can h2.can (by omega) ⟨.bl _, H, I, rfl, q⟩
theorem op_neD {k : Nat} (hr : Room k X.A) : OpR X (compareOp .NotEq) rNeD := by
  intro pins s σ H x y v u Q I rx ry h
  obtain ⟨d, e, h1, h2, hd, q⟩ := h
  obtain ⟨as, r1⟩ := h1.reads I.hok rx
  obtain ⟨bs, r2⟩ := h2.reads I.hok ry
  have := hr.units
  exact SeqAt.rcNeAt_reads r1 r2 h1.can h2.can (by omega) X.prog X.w X.xe _ ⟨.bl _, H, I, rfl, q⟩
def rInD (neg : Bool) : R2 := fun x y H Q => ∃ d ds, At H x d ∧ (At H y (.list ds) ∨ At H y (.tuple ds)) ∧ d.depth ≤ 60 ∧ Q (.bl (if neg then !(ds.any fun e => PyData.eqv e d) else ds.any fun e => PyData.eqv e d)) H
theorem op_inD {k : Nat} (hr : Room k X.A) : OpR X (compareOp .In) (rInD false) := by
  intro pins s σ H x y v u Q I rx ry h
  obtain ⟨d, ds, h1, h2, hd, q⟩ := h
  obtain ⟨as, r1⟩ := h1.reads I.hok rx
  have := hr.units
  rcases h2 with h2 | h2
  · obtain ⟨bs, r2⟩ := h2.reads I.hok ry
    have c := h2.can
    rw [PyData.canLay0] at c
    exact SeqAt.in_list_reads r2 r1 c h1.can (by omega) ⟨.bl _, H, I, rfl, q⟩
  · obtain ⟨bs, r2⟩ := h2.reads I.hok ry
    have c := h2.can
    rw [PyData.canLay0] at c
    exact SeqAt.in_tuple_reads r2 r1 c h1.can (by omega) ⟨.bl _, H, I, rfl, q⟩
theorem op_notInD {k : Nat} (hr : Room k X.A) : OpR X (compareOp .NotIn) (rInD true) := by
  intro pins s σ H x y v u Q I rx ry h
  obtain ⟨d, ds, h1, h2, hd, q⟩ := h
  obtain ⟨as, r1⟩ := h1.reads I.hok rx
  have := hr.units
  rcases h2 with h2 | h2
  · obtain ⟨bs, r2⟩ := h2.reads I.hok ry
    have c := h2.can
    rw [PyData.canLay0] at c
    exact SeqAt.notIn_list_reads r2 r1 c h1.can (by omega) ⟨.bl _, H, I, rfl, q⟩
  · obtain ⟨bs, r2⟩ := h2.reads I.hok ry
    have c := h2.can
    rw [PyData.canLay0] at c
    exact SeqAt.notIn_tuple_reads r2 r1 c h1.can (by omega) ⟨.bl _, H, I, rfl, q⟩

/-! ### isinstance -/
def tyD : PyData → String
  | .none => "NoneType"
  | .bool _ => "bool"
  | .int _ => "int"
  | .str _ => "str"
  | .list _ => "list"
  | .tuple _ => "tuple"
  | .dict _ => "dict"
def isD (T U : String) : Bool := T == U || (T == "bool" && U == "int")
theorem At.ty {K : PySem.W.Frag} {H : Hp} {v : V} {d : PyData} (h : At H v d) : TyOf K H v (.type (tyD d)) := by
  cases h with
  | non => exact .non
  | bl b => exact .bl b
  | int i => exact .int i
  | str _ => exact .str _
  | tup e _ => exact .tup e
  | lst e _ => exact .lst e
def fiveT : List String := ["int", "bool", "str", "list", "tuple"]
def sixT : List String := ["NoneType", "int", "bool", "str", "list", "tuple"]
theorem kit_ty (K : PySem.W.Frag) : ∀ T ∈ sixT, ∀ U ∈ fiveT, PySem.W.kitOne K (.type T) (.type U) = some (isD T U) := by
  intro T hT U hU
  simp only [sixT, fiveT, List.mem_cons, List.mem_nil_iff, or_false] at hT hU
  rcases hT with rfl | rfl | rfl | rfl | rfl | rfl <;> rcases hU with rfl | rfl | rfl | rfl | rfl <;> rfl
theorem At.six {H : Hp} {v : V} {d : PyData} (h : At H v d) : tyD d ∈ sixT := by
  cases h <;> simp [tyD, sixT]
def isOf (U : String) (d : PyData) : Bool := isD (tyD d) U
def isInt : PyData → Bool
  | .int _ => true
  | .bool _ => true
  | _ => false
def isBool : PyData → Bool
  | .bool _ => true
  | _ => false
def isStr : PyData → Bool
  | .str _ => true
  | _ => false
def isLst : PyData → Bool
  | .list _ => true
  | _ => false
def isTup : PyData → Bool
  | .tuple _ => true
  | _ => false
def isSeq : PyData → Bool
  | .list _ => true
  | .tuple _ => true
  | _ => false
theorem isOf_int (d : PyData) : isOf "int" d = isInt d := by cases d <;> simp [isOf, isD, tyD, isInt, isBool, isStr, isLst, isTup, isSeq]
theorem isOf_bool (d : PyData) : isOf "bool" d = isBool d := by cases d <;> simp [isOf, isD, tyD, isInt, isBool, isStr, isLst, isTup, isSeq]
theorem isOf_str (d : PyData) : isOf "str" d = isStr d := by cases d <;> simp [isOf, isD, tyD, isInt, isBool, isStr, isLst, isTup, isSeq]
theorem isOf_list (d : PyData) : isOf "list" d = isLst d := by cases d <;> simp [isOf, isD, tyD, isInt, isBool, isStr, isLst, isTup, isSeq]
theorem isOf_tuple (d : PyData) : isOf "tuple" d = isTup d := by cases d <;> simp [isOf, isD, tyD, isInt, isBool, isStr, isLst, isTup, isSeq]
theorem isOf_seq (d : PyData) : (["list", "tuple"].any fun U => isOf U d) = isSeq d := by cases d <;> simp [isOf, isD, tyD, isInt, isBool, isStr, isLst, isTup, isSeq]
theorem call_isi0 {pins : List (Addr × Obj)} {s : Shared} {σ : L2.St} {H : Hp} {x : V} {d : PyData} {U : String} {us : List Value} {Q : VK} (I : Inv X pins σ H s) (r : Vals [x, .ty U] us) (h1 : At H x d) (hU : U ∈ fiveT) (q : Q (.bl (isOf U d)) H) :
    wpAny (model X.prog X.w) X.A (call (.builtin "isinstance") us) (EP X pins σ Q) X.xe s := by
  obtain ⟨u, w', rfl, r1, r2⟩ := vals2 r
  cases (show w' = Value.type U from r2)
  exact isinst_ok I r1 h1.ty (kit_ty X.K _ h1.six _ hU) fun tk => ⟨.bl _, H, I.tok tk, rfl, q⟩
def rIsi (U : String) (f : PyData → Bool) : List V → Hp → VK → Prop := fun xs H Q => ∃ x d, xs = [x, .ty U] ∧ At H x d ∧ Q (.bl (f d)) H
theorem isi_int : CallR X (.builtin "isinstance") (rIsi "int" isInt) := by
  intro pins s σ H xs us Q I r h
  obtain ⟨x, d, rfl, h1, q⟩ := h
  exact call_isi0 I r h1 (by simp [fiveT]) (by rw [isOf_int]; exact q)
theorem isi_bool : CallR X (.builtin "isinstance") (rIsi "bool" isBool) := by
  intro pins s σ H xs us Q I r h
  obtain ⟨x, d, rfl, h1, q⟩ := h
  exact call_isi0 I r h1 (by simp [fiveT]) (by rw [isOf_bool]; exact q)
theorem isi_str : CallR X (.builtin "isinstance") (rIsi "str" isStr) := by
  intro pins s σ H xs us Q I r h
  obtain ⟨x, d, rfl, h1, q⟩ := h
  exact call_isi0 I r h1 (by simp [fiveT]) (by rw [isOf_str]; exact q)
theorem isi_list : CallR X (.builtin "isinstance") (rIsi "list" isLst) := by
  intro pins s σ H xs us Q I r h
  obtain ⟨x, d, rfl, h1, q⟩ := h
  exact call_isi0 I r h1 (by simp [fiveT]) (by rw [isOf_list]; exact q)
theorem isi_tuple : CallR X (.builtin "isinstance") (rIsi "tuple" isTup) := by
  intro pins s σ H xs us Q I r h
  obtain ⟨x, d, rfl, h1, q⟩ := h
  exact call_isi0 I r h1 (by simp [fiveT]) (by rw [isOf_tuple]; exact q)
theorem kit_tys (K : PySem.W.Frag) {T : String} (hT : T ∈ sixT) : ∀ Us : List String, (∀ U ∈ Us, U ∈ fiveT) → PySem.W.kitAny K (.type T) (Us.map Value.type) = some (Us.any (isD T))
  | [], _ => rfl
  | U :: r, h => by
    rw [List.map_cons, PySem.W.kitAny, kit_ty K T hT U (h U List.mem_cons_self)]
    have := kit_tys K hT r fun V hV => h V (List.mem_cons_of_mem _ hV)
    cases e : isD T U with
    | true => simp [e]
    | false =>
      simp only [List.any_cons, e, Bool.false_or]
      exact this
theorem tys_vals : ∀ {Us : List String} {its : List Value}, Vals (Us.map V.ty) its → its = Us.map Value.type
  | [], _, .nil => rfl
  | _ :: _, _, .cons r t => by
    rw [tys_vals t, show _ = Value.type _ from r]
    rfl
theorem kitx_at {H : Hp} {x : V} {d : PyData} {u : Value} {pins : List (Addr × Obj)} {σ : L2.St} {s : Shared} (I : Inv X pins σ H s) (h : At H x d) (rx : RelV x u) :
    ∃ Hh : Heap → Prop, PySem.W.KitX X.K u (.type (tyD d)) Hh ∧ Hh s.heap ∧ u ≠ .builtin "__main__.__loader__#opaque" := by
  cases h with
  | non => cases (show u = Value.none from rx); exact ⟨_, PySem.W.kitx_none, True.intro, fun z => nomatch z⟩
  | bl b => cases (show u = Value.bool b from rx); exact ⟨_, PySem.W.kitx_bool, True.intro, fun z => nomatch z⟩
  | int i => obtain ⟨t, q⟩ := (show ∃ t, u = Value.int i t from rx); cases q; exact ⟨_, PySem.W.kitx_int, True.intro, fun z => nomatch z⟩
  | @str y _ => obtain ⟨t, q⟩ := (show ∃ t, u = Value.str y t from rx); cases q; exact ⟨_, PySem.W.kitx_str, True.intro, fun z => nomatch z⟩
  | @lst a xs ds ea _ =>
    cases (show u = Value.ref a from rx)
    obtain ⟨_, _, n, _, h1⟩ := (show ObjOk X.prog X.w H s.heap a (.lst xs) from I.hok a _ ea)
    exact ⟨_, PySem.W.kitx_list, ⟨_, h1, rfl⟩, fun z => nomatch z⟩
  | @tup a xs ds ea _ =>
    cases (show u = Value.ref a from rx)
    obtain ⟨_, _, _, o, h1, h2, _⟩ := (show ObjOk X.prog X.w H s.heap a (.tup xs) from I.hok a _ ea)
    exact ⟨_, PySem.W.kitx_tuple, ⟨o, h1, h2⟩, fun z => nomatch z⟩
/-- isinstance(x, (list, tuple)) -/
theorem isi_seq : CallR X (.builtin "isinstance") (fun xs H Q => ∃ x d p, xs = [x, .ref p] ∧ At H x d ∧ H p = some (.tup [V.ty "list", V.ty "tuple"]) ∧ Q (.bl (isSeq d)) H) := by
  intro pins s σ H xs us Q I r h
  obtain ⟨x, d, p, rfl, h1, hp, q⟩ := h
  obtain ⟨u, w', rfl, r1, r2⟩ := vals2 r
  cases (show w' = Value.ref p from r2)
  obtain ⟨_, its, rv, o, g1, g2, n, g3⟩ := (show ObjOk X.prog X.w H s.heap p (.tup (["list", "tuple"].map V.ty)) from I.hok p _ hp)
  rw [tys_vals rv] at g3
  obtain ⟨cls, dd, dt, sl⟩ := o
  simp only at g2 g3
  subst g2 g3
  obtain ⟨Hh, Z, hh, hx⟩ := kitx_at I h1 r1
  refine PySem.W.kia_tup Z I.kIn hh g1 (kit_tys X.K h1.six ["list", "tuple"] (by simp [fiveT])) hx fun tk => ⟨.bl _, H, I.tok tk, rfl, ?_⟩
  have e := isOf_seq d
  rw [← e] at q
  exact q

/-! ### sorted of ints -/
theorem call_sorted : CallR X (.builtin "sorted") (fun xs H Q => ∃ (p : Addr) (ns : List Int), xs = [.ref p] ∧ H p = some (.lst (ns.map V.int)) ∧ ns.length < 64 ∧ ∀ (l : Addr) (ms : List Int), H l = none → ms.Perm ns → ms.Pairwise (· ≤ ·) → Q (.ref l) (upd H l (.lst (ms.map V.int)))) := by
  intro pins s σ H xs us Q I r h
  obtain ⟨p, ns, rfl, hp, hl, q⟩ := h
  obtain ⟨u, rfl, ru⟩ := vals1 r
  cases (show u = Value.ref p from ru)
  obtain ⟨z, its, n, rv, e⟩ := (show ObjOk X.prog X.w H s.heap p (.lst (ns.map V.int)) from I.hok p _ hp)
  have hI := intsAre_of rv
  have hlen := rv.length
  rw [List.length_map] at hlen
  refine sorted_ints (l := p) (vs := its) ⟨_, e, rfl, n, rfl⟩ hI (by omega) fun out ns' a1 a2 a3 => ?_
  obtain ⟨e', he⟩ := sortedAll_at s.heap its out
  have hn : H (s.heap.objs.size + 1) = none := I.hok.fresh (Nat.le_succ _)
  have hl' : ns'.length = ns.length := a2.length_eq
  refine ⟨.ref (s.heap.objs.size + 1), _, I.laid (a := s.heap.objs.size + 1) (o := .lst (ns'.map V.int)) (t' := s.toks) (fun b o q => sortedAll_old q) (Nat.le_succ _) ⟨?_, out.toList, e', vals_ints a1, ?_⟩, rfl, q _ ns' hn a2 a3⟩
  · rw [List.length_map, hl']
    exact Nat.le_of_lt (Nat.lt_of_lt_of_le hl (by decide))
  · rw [he]
end
end Fx
namespace Fx
open PySem PySem.Spec PyProof.Rows L2
/-- a thing of this call alone: it was not there at the entry, it is not in the stable part -/
structure Own (H G1 H1 : Hp) (a : Addr) (o : HO) : Prop where
  new : H a = none
  apart : G1 a = none
  is : H1 a = some o
section
variable {G H G1 H1 G2 H2 : Hp} {a p : Addr} {o u : HO}
theorem Ext.put (x : Ext G H G1 H1) (h : H1 p = none) : Ext G H (upd G1 p o) (upd H1 p o) := x.trans (Ext.alloc x.gh h)
theorem Ext.side (x : Ext G H G1 H1) (h1 : H p = none) (h2 : G1 p = none) : Ext G H G1 (upd H1 p o) :=
  ⟨x.gg, x.gh.side h2, x.hh.side h1, x.new⟩
/-- a new thing that stays apart -/
theorem Ext.lay (x : Ext G H G1 H1) (h : H1 p = none) : Ext G H G1 (upd H1 p o) := x.side (x.hh.free h) (x.gh.free h)
theorem Own.fresh (x : Ext G H G1 H1) (h : H1 p = none) : Own H G1 (upd H1 p o) p o := ⟨x.hh.free h, x.gh.free h, upd_same⟩
theorem Own.put (w : Own H G1 H1 a o) (h : H1 p = none) : Own H (upd G1 p u) (upd H1 p u) a o := by
  have ne := ne_of_none w.is h
  exact ⟨w.new, by rw [upd_ne ne]; exact w.apart, by rw [upd_ne ne]; exact w.is⟩
theorem Own.other (w : Own H G1 H1 a o) (ne : a ≠ p) : Own H G1 (upd H1 p u) a o := ⟨w.new, w.apart, by rw [upd_ne ne]; exact w.is⟩
theorem Own.lay (w : Own H G1 H1 a o) (h : H1 p = none) : Own H G1 (upd H1 p u) a o := w.other (ne_of_none w.is h)
theorem Own.set (w : Own H G1 H1 a o) : Own H G1 (upd H1 a u) a u := ⟨w.new, w.apart, upd_same⟩
theorem Own.write (x : Ext G H G1 H1) (w : Own H G1 H1 a o) : Ext G H G1 (upd H1 a u) := x.side w.new w.apart
theorem Own.ext (w : Own H G1 H1 a o) (x : Ext G1 H1 G2 H2) : Own H G2 H2 a o :=
  ⟨w.new, (x.apart w.apart w.is).1, (x.apart w.apart w.is).2⟩
theorem Own.join (x : Ext G H G1 H1) (w : Own H G1 H1 a o) : Ext G H (upd G1 a o) H1 where
  gg := x.gg.side (x.gg.free w.apart)
  gh := Ext.join x.gh w.is
  hh := x.hh
  new := fun b v h1 h2 => by
    by_cases hb : b = a
    · subst hb; exact w.new
    · rw [upd_ne hb] at h1; exact x.new b v h1 h2
theorem Own.joined (w : Own H G1 H1 a o) {b : Addr} {v : HO} (w2 : Own H G1 H1 b v) (ne : b ≠ a) : Own H (upd G1 a o) H1 b v :=
  ⟨w2.new, by rw [upd_ne ne]; exact w2.apart, w2.is⟩
end
/-- a def of the text that may be called -/
structure Cal (P : Program) (w : World) (K : PySem.W.Frag) (mg : Str → Option Value) (base : Heap) (k : Nat) (x : Str) (ps : List Str) (sp : Sp) where
  f : Addr
  fd : FuncData
  ok : FnOk P w K mg base CX0 k f fd ps sp
  mg : mg x = some (.ref f)
  kp : PySem.W.keepIn K (.ref f) = true
  b : Binds K fd ps []
/-! ### methods of lists as expressions -/
section
variable {X : Cx} {o e : Expr} {to : TE} {t : TA} {ap cp : Pos}
theorem m_append (ho : PE X o to) (ha : PA X [e] t) (hb : attributeBase o "append" X.env (eval o X.env) = eval o X.env := by rfl) (hline : (ap.endLine == cp.line) = true := by rfl) (hs : starEach [e] X.env = (false, eval e X.env) :: starEach [] X.env := by rfl) : PE X (.Call (.Attribute o "append" ap) [e] [] cp) (tBM X.K "list" rAppend to t) :=
  pe_bm F.plainAttrs_list F.slot_list_append F.type_list_append mt_append ho ha hb (by rw [hs]; rfl) hline hs
theorem m_extend (ho : PE X o to) (ha : PA X [e] t) (hb : attributeBase o "extend" X.env (eval o X.env) = eval o X.env := by rfl) (hline : (ap.endLine == cp.line) = true := by rfl) (hs : starEach [e] X.env = (false, eval e X.env) :: starEach [] X.env := by rfl) : PE X (.Call (.Attribute o "extend" ap) [e] [] cp) (tBM X.K "list" rExtend to t) :=
  pe_bm F.plainAttrs_list F.slot_list_extend F.type_list_extend mt_extend ho ha hb (by rw [hs]; rfl) hline hs
theorem m_pop (ho : PE X o to) (hb : attributeBase o "pop" X.env (eval o X.env) = eval o X.env := by rfl) (hline : (ap.endLine == cp.line) = true := by rfl) : PE X (.Call (.Attribute o "pop" ap) [] [] cp) (tBM0 X.K "list" rPop to) :=
  pe_bm0 F.plainAttrs_list F.slot_list_pop F.type_list_pop mt_pop ho hb hline
theorem tyL {K : PySem.W.Frag} {H : Hp} {a : Addr} {xs : List V} (h : H a = some (.lst xs)) : tyV K "list" (.ref a) H := .inl ⟨rfl, xs, SqL.of h⟩
end
theorem b_len : bootBuiltins "len" = some (.builtin "len") := by decide +kernel
theorem b_isinstance : bootBuiltins "isinstance" = some (.builtin "isinstance") := by decide +kernel
theorem b_sorted : bootBuiltins "sorted" = some (.builtin "sorted") := by decide +kernel
theorem b_int : bootBuiltins "int" = some (.type "int") := by decide +kernel
theorem b_bool : bootBuiltins "bool" = some (.type "bool") := by decide +kernel
theorem b_str : bootBuiltins "str" = some (.type "str") := by decide +kernel
theorem b_list : bootBuiltins "list" = some (.type "list") := by decide +kernel
theorem b_tuple : bootBuiltins "tuple" = some (.type "tuple") := by decide +kernel
/-- the name of a built-in type, as a value -/
theorem pe_ty {X : Cx} (T : String) {x : Str} {pos : Pos} (hg : Gl X x) (hm : X.mg x = none) (hv : bootBuiltins x = some (.type T)) (hn : x ≠ "__name__" := by decide +kernel) (hd : (x == ("__debug__" : Str)) = false := by decide +kernel) : PE X (.Name x pos) (tC (.ty T)) :=
  pe_bltn hg hm hv rfl hn hd
/-! ### lanes, boards as data -/
def laneD (l : Int × Int) : PyData := .tuple [.int l.1, .int l.2]
def boardD (B : Brd) : PyData := .tuple [.int B.n, .list (B.lanes.map laneD), .list (B.coops.map .int)]
theorem lane_depth (l : Int × Int) : (laneD l).depth ≤ 60 := by simp [laneD, PyData.depth, PyData.depthAll]
theorem eqv_lane (a b : Int × Int) : PyData.eqv (laneD a) (laneD b) = decide (a = b) := by
  obtain ⟨a1, a2⟩ := a
  obtain ⟨b1, b2⟩ := b
  simp only [laneD, PyData.eqv, PyData.eqvAll, Bool.and_true]
  by_cases h : a1 = b1 <;> by_cases h' : a2 = b2 <;> simp [h, h']
theorem any_lane (ls : List (Int × Int)) (l : Int × Int) : (ls.map laneD).any (fun e => PyData.eqv e (laneD l)) = decide (l ∈ ls) := by
  induction ls with
  | nil => simp
  | cons a r ih =>
    rw [List.map_cons, List.any_cons, ih, eqv_lane]
    by_cases h : a = l
    · subst h; simp
    · have h' : ¬ l = a := fun e => h e.symm
      simp [h, h']
/-! ### sizes of data; data without bools -/
mutual
def sz : PyData → Nat
  | .list xs => szs xs + 1
  | .tuple xs => szs xs + 1
  | _ => 1
def szs : List PyData → Nat
  | [] => 0
  | d :: r => sz d + szs r
end
mutual
def noB : PyData → Bool
  | .bool _ => false
  | .dict _ => false
  | .list xs => noBs xs
  | .tuple xs => noBs xs
  | _ => true
def noBs : List PyData → Bool
  | [] => true
  | d :: r => noB d && noBs r
end
theorem szs_append : ∀ xs ys : List PyData, szs (xs ++ ys) = szs xs + szs ys
  | [], ys => by simp [szs]
  | d :: r, ys => by rw [List.cons_append, szs, szs, szs_append r ys]; omega
theorem noBs_append : ∀ xs ys : List PyData, noBs (xs ++ ys) = (noBs xs && noBs ys)
  | [], ys => by simp [noBs]
  | d :: r, ys => by rw [List.cons_append, noBs, noBs, noBs_append r ys, Bool.and_assoc]
theorem sz_pos (d : PyData) : 1 ≤ sz d := by cases d <;> simp [sz]
theorem len_szs : ∀ xs : List PyData, xs.length ≤ szs xs
  | [] => by simp [szs]
  | d :: r => by
    have := len_szs r
    have := sz_pos d
    rw [List.length_cons, szs]
    omega
theorem szs_ints (ns : List Int) : szs (ns.map PyData.int) = ns.length := by
  induction ns with
  | nil => rfl
  | cons n r ih => rw [List.map_cons, szs, ih, List.length_cons]; show 1 + r.length = _; omega
theorem noBs_ints (ns : List Int) : noBs (ns.map PyData.int) = true := by
  induction ns with
  | nil => rfl
  | cons n r ih => rw [List.map_cons, noBs, ih]; rfl
theorem szs_lanes (ls : List (Int × Int)) : szs (ls.map laneD) = 3 * ls.length := by
  induction ls with
  | nil => rfl
  | cons l r ih => rw [List.map_cons, szs, ih, List.length_cons]; simp [laneD, sz, szs]; omega
theorem noBs_lanes (ls : List (Int × Int)) : noBs (ls.map laneD) = true := by
  induction ls with
  | nil => rfl
  | cons l r ih => rw [List.map_cons, noBs, ih]; simp [laneD, noB, noBs]
theorem noB_board (B : Brd) : noB (boardD B) = true := by
  simp [boardD, noB, noBs, noBs_lanes, noBs_ints]
theorem sz_board (B : Brd) : sz (boardD B) = 3 * B.lanes.length + B.coops.length + 4 := by
  simp [boardD, sz, szs, szs_lanes, szs_ints]
  omega
theorem At.seq2 {H : Hp} {v u : V} {d : PyData} (h : At H v d) (h' : At H u d) (hs : isSeq d = true) : ∃ a b xs ys ds, v = .ref a ∧ u = .ref b ∧ (H a = some (.lst xs) ∨ H a = some (.tup xs)) ∧ (H b = some (.lst ys) ∨ H b = some (.tup ys)) ∧
    AtAll H xs ds ∧ AtAll H ys ds ∧ sz d = szs ds + 1 ∧ noB d = noBs ds := by
  cases h with
  | tup e t =>
    cases h' with
    | tup e' t' => exact ⟨_, _, _, _, _, rfl, rfl, .inr e, .inr e', t, t', by rw [sz], by rw [noB]⟩
  | lst e t =>
    cases h' with
    | lst e' t' => exact ⟨_, _, _, _, _, rfl, rfl, .inl e, .inl e', t, t', by rw [sz], by rw [noB]⟩
  | _ => exact absurd hs (by simp [isSeq])
theorem seq_or {K : PySem.W.Frag} {H : Hp} {a : Addr} {xs : List V} (h : H a = some (.lst xs) ∨ H a = some (.tup xs)) : SqL K H a xs ∨ SqT K H a xs := h.imp SqL.of SqT.of
/-! ### comprehensions over a list, over a range -/
theorem comp_list {K : PySem.W.Frag} {a D : Addr} {xs : List V} {g : TG} {tt : TT} {te : TE} {R : Hp → Prop} {τ0 : L2.St} {H : Hp} (Pv : Nat → L2.St → Hp → Prop) (h0 : Pv 0 τ0 H) (hl : ∀ i τ H, i ≤ xs.length → Pv i τ H → SqL K H a xs)
    (hs : ∀ i x τ H, xs[i]? = some x → Pv i τ H → g x τ H fun τ2 H3 => tt τ2 H3 fun b H4 => if b = true then te τ2 H4 fun y H5 => ∃ ys, H5 D = some (.lst ys) ∧ ys.length < sizeLine ∧ Pv (i + 1) τ2 (upd H5 D (.lst (ys ++ [y]))) else Pv (i + 1) τ2 H4)
    (hd : ∀ τ H, Pv xs.length τ H → R H) :
    ∃ W : Nat → Nat → L2.St → Hp → Prop, (∃ m, W 0 m τ0 H) ∧ ∀ i m τ H2, W i m τ H2 →
      ((Itl K a).stop i H2 ∧ R H2) ∨ ((Itl K a).go i H2 ∧ ∃ N : L2.St → Hp → Prop, (∀ τ' H', N τ' H' → ∃ m', m' < m ∧ W (i + 1) m' τ' H') ∧
        ∀ x H', (Itl K a).yld i H2 x H' → g x τ H' fun τ2 H3 => tt τ2 H3 fun b H4 => if b = true then te τ2 H4 fun y H5 => ∃ ys, H5 D = some (.lst ys) ∧ ys.length < sizeLine ∧ N τ2 (upd H5 D (.lst (ys ++ [y]))) else N τ2 H4) := by
  refine ⟨fun i m τ H => m = xs.length - i ∧ i ≤ xs.length ∧ Pv i τ H, ⟨xs.length, by simp, Nat.zero_le _, h0⟩, ?_⟩
  rintro i m τ H ⟨rfl, hi, p⟩
  have q := hl i τ H hi p
  by_cases hlt : i < xs.length
  · refine .inr ⟨⟨xs, xs[i], q, by simp [hlt]⟩, Pv (i + 1), fun σ' H' p' => ⟨xs.length - (i + 1), by omega, rfl, hlt, p'⟩, fun x H' y => ?_⟩
    obtain ⟨e, y⟩ := y
    subst e
    exact hs i x τ _ (y xs q) p
  · have e : i = xs.length := by omega
    subst e
    exact .inl ⟨⟨xs, q, Nat.le_refl _⟩, hd τ H p⟩
theorem comp_range {D : Addr} {lo : Int} {n : Nat} {g : TG} {tt : TT} {te : TE} {R : Hp → Prop} {τ0 : L2.St} {H : Hp} (Pv : Nat → L2.St → Hp → Prop) (h0 : Pv 0 τ0 H)
    (hs : ∀ i τ H, i < n → Pv i τ H → g (.int (lo + i)) τ H fun τ2 H3 => tt τ2 H3 fun b H4 => if b = true then te τ2 H4 fun y H5 => ∃ ys, H5 D = some (.lst ys) ∧ ys.length < sizeLine ∧ Pv (i + 1) τ2 (upd H5 D (.lst (ys ++ [y]))) else Pv (i + 1) τ2 H4)
    (hd : ∀ τ H, Pv n τ H → R H) :
    ∃ W : Nat → Nat → L2.St → Hp → Prop, (∃ m, W 0 m τ0 H) ∧ ∀ i m τ H2, W i m τ H2 →
      ((Itr lo n).stop i H2 ∧ R H2) ∨ ((Itr lo n).go i H2 ∧ ∃ N : L2.St → Hp → Prop, (∀ τ' H', N τ' H' → ∃ m', m' < m ∧ W (i + 1) m' τ' H') ∧
        ∀ x H', (Itr lo n).yld i H2 x H' → g x τ H' fun τ2 H3 => tt τ2 H3 fun b H4 => if b = true then te τ2 H4 fun y H5 => ∃ ys, H5 D = some (.lst ys) ∧ ys.length < sizeLine ∧ N τ2 (upd H5 D (.lst (ys ++ [y]))) else N τ2 H4) := by
  refine ⟨fun i m τ H => m = n - i ∧ i ≤ n ∧ Pv i τ H, ⟨n, by simp, Nat.zero_le _, h0⟩, ?_⟩
  rintro i m τ H ⟨rfl, hi, p⟩
  by_cases hlt : i < n
  · refine .inr ⟨hlt, Pv (i + 1), fun σ' H' p' => ⟨n - (i + 1), by omega, rfl, hlt, p'⟩, fun x H' y => ?_⟩
    obtain ⟨e, y⟩ := y
    subst e y
    exact hs i τ _ hlt p
  · have e : i = n := by omega
    subst e
    exact .inl ⟨Nat.le_refl _, hd τ H p⟩
/-! ### small things -/
theorem decV (i j : Int) : decide (V.int i = V.int j) = decide (i = j) := by
  by_cases h : i = j
  · rw [decide_eq_true h, decide_eq_true (by rw [h])]
  · rw [decide_eq_false h, decide_eq_false fun e => h (V.int.inj e)]
/-- a and b, as a value -/
theorem iteQ {c b2 : Bool} {A : Prop} {Q : V → Hp → Prop} {H : Hp} (hA : Q (.bl b2) H → A) (h : Q (.bl (c && b2)) H) : if c = true then A else Q (.bl false) H := by
  cases c with
  | true => exact iteT (hA h)
  | false => exact iteF h
theorem atI_int {ns : List Int} {k : Nat} (h : k < ns.length) : atI (ns.map V.int) (k : Int) = some (.int (atD ns k)) := by
  refine atI_nat ?_
  rw [List.getElem?_map, List.getElem?_eq_getElem h]
  unfold atD
  rw [List.getD_eq_getElem?_getD, List.getElem?_eq_getElem h]
  rfl
theorem atI_toNat {ns : List Int} {i : Int} (h0 : 0 ≤ i) (h : i.toNat < ns.length) : atI (ns.map V.int) i = some (.int (atD ns i.toNat)) := by
  have e : ((i.toNat : Nat) : Int) = i := by omega
  have := atI_int h
  rw [e] at this
  exact this
theorem At.lane {H : Hp} {v : V} {l : Int × Int} (h : At H v (laneD l)) : ∃ q, v = .ref q ∧ H q = some (.tup [.int l.1, .int l.2]) := by
  cases h with
  | tup e t =>
    cases t with
    | cons a t =>
      cases t with
      | cons b t =>
        cases t
        cases a
        cases b
        exact ⟨_, rfl, e⟩
theorem At.board {H : Hp} {v : V} {B : Brd} (h : At H v (boardD B)) : ∃ p la ca ls, v = .ref p ∧ H p = some (.tup [.int B.n, .ref la, .ref ca]) ∧ H la = some (.lst ls) ∧ AtAll H ls (B.lanes.map laneD) ∧ H ca = some (.lst (B.coops.map V.int)) := by
  cases h with
  | tup e t =>
    cases t with
    | cons a t =>
      cases t with
      | cons b t =>
        cases t with
        | cons c t =>
          cases t
          cases a
          cases b with
          | lst eb tb =>
            cases c with
            | lst ec tc =>
              have := tc.ints_of
              subst this
              exact ⟨_, _, _, _, rfl, e, eb, tb, ec⟩
theorem cut500 {ns : List Int} (h : ns.length ≤ 63) : cutV (ns.map V.int) none (some 500) = ns.map V.int := by
  unfold cutV
  have e : HT.sIx (ns.map V.int).length (ns.map V.int).length (some 500) = (ns.map V.int).length := by
    have := HT.sIx_nat (ns.map V.int).length (ns.map V.int).length 500
    rw [show ((500 : Nat) : Int) = 500 from rfl] at this
    rw [this, List.length_map]
    omega
  rw [e, HT.sIx_none, List.drop_zero, Nat.sub_zero, List.take_length]
theorem waysL_take {lanes : List (Int × Int)} {y : Int} {i : Nat} {l : Int × Int} (h : lanes[i]? = some l) : waysL (lanes.take (i + 1)) y = waysL (lanes.take i) y ++ (if l.1 = y then [l.2] else []) := by
  unfold waysL
  rw [List.take_add_one, h]
  show ((lanes.take i ++ [l]).filter _).map _ = _
  rw [List.filter_append, List.map_append]
  congr 1
  by_cases e : l.1 = y
  · rw [if_pos e, List.filter_cons, if_pos (decide_eq_true e)]; rfl
  · rw [if_neg e, List.filter_cons, if_neg (fun z => e (of_decide_eq_true z))]; rfl
theorem waysL_len (lanes : List (Int × Int)) (y : Int) : (waysL lanes y).length ≤ lanes.length := by
  unfold waysL
  rw [List.length_map]
  exact List.length_filter_le _ _
/-! ### the rules that speak of the written part, by its name -/
section
variable {X : Cx} {K : PySem.W.Frag} {o e l tg : Expr} {to tl : TE} {t : TA} {ap cp : Pos}
theorem ix_K (h : X.K = K) : IxR X (rIx K) := by subst h; exact ix_seq
theorem len_K (h : X.K = K) : CallR X (.builtin "len") (fun xs H Q => ∃ p ys, xs = [.ref p] ∧ (SqL K H p ys ∨ SqT K H p ys) ∧ Q (.int ys.length) H) := by subst h; exact call_len_seq
theorem listOf_K (h : X.K = K) : CallR X (.type "list") (fun xs H Q => ∃ p ys, xs = [.ref p] ∧ (SqL K H p ys ∨ SqT K H p ys) ∧ ∀ l, H l = none → Q (.ref l) (upd H l (.lst ys))) := by subst h; exact call_list_of
theorem sl_K (h : X.K = K) : SlR X (rSlL K) := by subst h; exact sl_list
theorem pi_K (h : X.K = K) (hl : PE X l tl) : PI X tg l (iList K tl) := by subst h; exact pi_list hl
theorem append_K (h : X.K = K) (ho : PE X o to) (ha : PA X [e] t) (hb : attributeBase o "append" X.env (eval o X.env) = eval o X.env := by rfl) (hline : (ap.endLine == cp.line) = true := by rfl) (hs : starEach [e] X.env = (false, eval e X.env) :: starEach [] X.env := by rfl) : PE X (.Call (.Attribute o "append" ap) [e] [] cp) (tBM K "list" rAppend to t) := by
  subst h; exact m_append ho ha hb hline hs
theorem extend_K (h : X.K = K) (ho : PE X o to) (ha : PA X [e] t) (hb : attributeBase o "extend" X.env (eval o X.env) = eval o X.env := by rfl) (hline : (ap.endLine == cp.line) = true := by rfl) (hs : starEach [e] X.env = (false, eval e X.env) :: starEach [] X.env := by rfl) : PE X (.Call (.Attribute o "extend" ap) [e] [] cp) (tBM K "list" rExtend to t) := by
  subst h; exact m_extend ho ha hb hline hs
theorem pop_K (h : X.K = K) (ho : PE X o to) (hb : attributeBase o "pop" X.env (eval o X.env) = eval o X.env := by rfl) (hline : (ap.endLine == cp.line) = true := by rfl) : PE X (.Call (.Attribute o "pop" ap) [] [] cp) (tBM0 K "list" rPop to) := by
  subst h; exact m_pop ho hb hline
end
theorem few {n : Nat} (h : n ≤ 1000) : n ≤ sizeLine := Nat.le_of_lt (small1000 h)
end Fx

set_option linter.all false
namespace Fx
/-! ### the game on a board -/
structure Plc where
  f : Int
  h : Int
  t : Bool
  deriving DecidableEq
def yardOf (p : Plc) : Int := if p.t = true then p.f else p.h
def waysB (B : Brd) (p : Plc) : List Int := waysL B.lanes (yardOf p)
def winAt (B : Brd) (p : Plc) : Option Bool := if p.f = p.h then some true else if p.h ∈ B.coops then some false else if waysB B p = [] then some (!p.t) else none
def nxt (p : Plc) (y : Int) : Plc := if p.t = true then ⟨y, p.h, false⟩ else ⟨p.f, y, true⟩
def gameOf (B : Brd) : Game Plc := ⟨winAt B, (·.t), fun p => (waysB B p).map (nxt p)⟩
def posAt (n k : Nat) : Plc := ⟨((k / (2 * n) : Nat) : Int), ((k / 2 % n : Nat) : Int), decide (k % 2 = 0)⟩
def allPos (n : Nat) : List Plc := (List.range (2 * n * n)).map (posAt n)
structure InB (n : Nat) (p : Plc) : Prop where
  f0 : 0 ≤ p.f
  f1 : p.f < (n : Int)
  h0 : 0 ≤ p.h
  h1 : p.h < (n : Int)
theorem posAt_in {n k : Nat} (hk : k < 2 * n * n) : InB n (posAt n k) := by
  have hn : 0 < n := by
    cases n with
    | zero => simp at hk
    | succ n => omega
  refine ⟨Int.natCast_nonneg _, ?_, Int.natCast_nonneg _, ?_⟩
  · show ((k / (2 * n) : Nat) : Int) < n
    have : k / (2 * n) < n := Nat.div_lt_of_lt_mul hk
    omega
  · show ((k / 2 % n : Nat) : Int) < n
    have : k / 2 % n < n := Nat.mod_lt _ hn
    omega
/-- the place of a position in their order -/
def ixOf (n : Nat) (p : Plc) : Nat := p.f.toNat * (2 * n) + (2 * p.h.toNat + (if p.t = true then 0 else 1))
theorem ixOf_lt {n : Nat} {p : Plc} (h : InB n p) : ixOf n p < 2 * n * n := by
  obtain ⟨h1, h2, h3, h4⟩ := h
  have a : p.f.toNat + 1 ≤ n := by omega
  have b : 2 * p.h.toNat + (if p.t = true then 0 else 1) < 2 * n := by split <;> omega
  have c : (p.f.toNat + 1) * (2 * n) ≤ n * (2 * n) := Nat.mul_le_mul_right _ a
  rw [Nat.add_mul, Nat.one_mul] at c
  unfold ixOf
  rw [Nat.mul_comm (2 * n) n]
  omega
theorem posAt_ixOf {n : Nat} {p : Plc} (h : InB n p) : posAt n (ixOf n p) = p := by
  obtain ⟨h1, h2, h3, h4⟩ := h
  obtain ⟨f, hh, t⟩ := p
  simp only at h1 h2 h3 h4
  have hn : 0 < n := by omega
  have b : 2 * hh.toNat + (if t = true then 0 else 1) < 2 * n := by split <;> omega
  unfold posAt ixOf
  simp only
  have e1 : (f.toNat * (2 * n) + (2 * hh.toNat + (if t = true then 0 else 1))) / (2 * n) = f.toNat := by
    rw [Nat.mul_comm, Nat.mul_add_div (by omega), Nat.div_eq_of_lt b, Nat.add_zero]
  have e2 : (f.toNat * (2 * n) + (2 * hh.toNat + (if t = true then 0 else 1))) / 2 = f.toNat * n + hh.toNat := by
    have : f.toNat * (2 * n) = 2 * (f.toNat * n) := by rw [Nat.mul_left_comm]
    rw [this]
    split <;> omega
  have e3 : (f.toNat * n + hh.toNat) % n = hh.toNat := by
    rw [Nat.mul_comm, Nat.mul_add_mod]
    exact Nat.mod_eq_of_lt (by omega)
  have e4 : (f.toNat * (2 * n) + (2 * hh.toNat + (if t = true then 0 else 1))) % 2 = if t = true then 0 else 1 := by
    have : f.toNat * (2 * n) = 2 * (f.toNat * n) := by rw [Nat.mul_left_comm]
    rw [this]
    split <;> omega
  rw [e1, e2, e3, e4]
  congr 1
  · omega
  · omega
  · cases t <;> simp
theorem mem_allPos {n : Nat} {p : Plc} : p ∈ allPos n ↔ InB n p := by
  unfold allPos
  constructor
  · intro h
    obtain ⟨k, hk, rfl⟩ := List.mem_map.mp h
    exact posAt_in (List.mem_range.mp hk)
  · intro h
    exact List.mem_map.mpr ⟨ixOf n p, List.mem_range.mpr (ixOf_lt h), posAt_ixOf h⟩
theorem allPos_len (n : Nat) : (allPos n).length = 2 * n * n := by unfold allPos; rw [List.length_map, List.length_range]
theorem posAt_inj {n i j : Nat} (hi : i < 2 * n * n) (hj : j < 2 * n * n) (h : posAt n i = posAt n j) : i = j := by
  have hn : 0 < n := by
    cases n with
    | zero => simp at hi
    | succ n => omega
  unfold posAt at h
  injection h with h1 h2 h3
  have h1 : i / (2 * n) = j / (2 * n) := by omega
  have h2 : i / 2 % n = j / 2 % n := by omega
  have h3 : i % 2 = j % 2 := by
    by_cases a : i % 2 = 0 <;> by_cases b : j % 2 = 0 <;> simp [a, b] at h3 <;> omega
  have e : ∀ k : Nat, k / (2 * n) = k / 2 / n := fun k => (Nat.div_div_eq_div_mul k 2 n).symm
  rw [e, e] at h1
  have hi2 := Nat.div_add_mod (i / 2) n
  have hj2 := Nat.div_add_mod (j / 2) n
  rw [h1, h2] at hi2
  omega
theorem allPos_nodup (n : Nat) : (allPos n).Nodup := by
  unfold allPos List.Nodup
  rw [List.pairwise_map]
  refine List.Pairwise.imp_of_mem ?_ List.nodup_range
  intro a b ha hb hab e
  exact hab (posAt_inj (List.mem_range.mp ha) (List.mem_range.mp hb) e)
theorem way_in {B : Brd} (g : Good B) {p : Plc} {y : Int} (h : y ∈ waysB B p) : 0 ≤ y ∧ y < (B.n : Int) := by
  have := g.rng _ (mem_waysL.mp h)
  exact this.2
theorem nxt_in {n : Nat} {p : Plc} {y : Int} (h : InB n p) (hy : 0 ≤ y ∧ y < (n : Int)) : InB n (nxt p y) := by
  unfold nxt
  split
  · exact ⟨hy.1, hy.2, h.h0, h.h1⟩
  · exact ⟨h.f0, h.f1, hy.1, hy.2⟩
theorem goes (B : Brd) : Goes (gameOf B) := by
  intro p h
  show (waysB B p).map (nxt p) ≠ []
  have h : winAt B p = none := h
  unfold winAt at h
  split at h
  · cases h
  · split at h
    · cases h
    · split at h
      · cases h
      · rename_i z
        simpa using z
theorem closed {B : Brd} (g : Good B) : Closed (gameOf B) (allPos B.n) := by
  refine ⟨goes B, fun p hp q hq => ?_⟩
  obtain ⟨y, hy, rfl⟩ := List.mem_map.mp (show q ∈ (waysB B p).map (nxt p) from hq)
  exact mem_allPos.mpr (nxt_in (mem_allPos.mp hp) (way_in g hy))
/-- the verdict on a position: who wins in how many moves, or none -/
def verd (B : Brd) (p : Plc) : Val := fin (gameOf B) (allPos B.n) p
end Fx

set_option linter.all false
namespace Fx
/-! ### numbers in rising order -/
def insI (a : Int) : List Int → List Int
  | [] => [a]
  | b :: l => if a ≤ b then a :: b :: l else b :: insI a l
def srt : List Int → List Int
  | [] => []
  | a :: l => insI a (srt l)
theorem insI_perm (a : Int) : ∀ l, (insI a l).Perm (a :: l)
  | [] => .refl _
  | b :: l => by
    unfold insI
    split
    · exact .refl _
    · exact ((insI_perm a l).cons b).trans (.swap a b l)
theorem srt_perm : ∀ l, (srt l).Perm l
  | [] => .refl _
  | a :: l => (insI_perm a (srt l)).trans ((srt_perm l).cons a)
theorem insI_sorted (a : Int) : ∀ {l : List Int}, l.Pairwise (· ≤ ·) → (insI a l).Pairwise (· ≤ ·)
  | [], _ => List.pairwise_singleton _ _
  | b :: l, h => by
    obtain ⟨h1, h2⟩ := List.pairwise_cons.mp h
    unfold insI
    split
    · rename_i hab
      refine List.pairwise_cons.mpr ⟨fun c hc => ?_, h⟩
      rcases List.mem_cons.mp hc with rfl | hc
      · exact hab
      · have := h1 c hc
        omega
    · rename_i hab
      refine List.pairwise_cons.mpr ⟨fun c hc => ?_, insI_sorted a h2⟩
      rcases List.mem_cons.mp ((insI_perm a l).mem_iff.mp hc) with rfl | hc
      · omega
      · exact h1 c hc
theorem srt_sorted : ∀ l, (srt l).Pairwise (· ≤ ·)
  | [] => .nil
  | a :: l => insI_sorted a (srt_sorted l)
theorem sorted_eq : ∀ {l m : List Int}, l.Perm m → l.Pairwise (· ≤ ·) → m.Pairwise (· ≤ ·) → l = m
  | [], m, p, _, _ => by
    cases m with
    | nil => rfl
    | cons b m => exact absurd p.length_eq (by simp)
  | a :: l, m, p, h1, h2 => by
    cases m with
    | nil => exact absurd p.length_eq (by simp)
    | cons b m =>
      obtain ⟨h3, h4⟩ := List.pairwise_cons.mp h1
      obtain ⟨h5, h6⟩ := List.pairwise_cons.mp h2
      have e : a = b := by
        have ha : a ∈ b :: m := p.mem_iff.mp List.mem_cons_self
        have hb : b ∈ a :: l := p.mem_iff.mpr List.mem_cons_self
        rcases List.mem_cons.mp ha with z | z
        · exact z
        · have := h5 a z
          rcases List.mem_cons.mp hb with y | y
          · exact y.symm
          · have := h3 b y
            omega
      subst e
      rw [sorted_eq (List.Perm.cons_inv p) h4 h6]
theorem srt_of {l m : List Int} (h : m.Perm l) (hs : m.Pairwise (· ≤ ·)) : m = srt l := sorted_eq (h.trans (srt_perm l).symm) hs (srt_sorted l)
theorem srt_mem {l : List Int} {a : Int} : a ∈ srt l ↔ a ∈ l := (srt_perm l).mem_iff
theorem srt_len (l : List Int) : (srt l).length = l.length := (srt_perm l).length_eq
theorem srt_head {l : List Int} {f : Int → Bool} {a : Int} {r : List Int} (h : (srt l).filter f = a :: r) : a ∈ l ∧ f a = true ∧ ∀ z ∈ l, f z = true → a ≤ z := by
  have hm : a ∈ (srt l).filter f := by rw [h]; exact List.mem_cons_self
  obtain ⟨h1, h2⟩ := List.mem_filter.mp hm
  refine ⟨srt_mem.mp h1, h2, fun z hz hf => ?_⟩
  have hzm : z ∈ (srt l).filter f := List.mem_filter.mpr ⟨srt_mem.mpr hz, hf⟩
  have so : ((srt l).filter f).Pairwise (· ≤ ·) := (srt_sorted l).filter _
  rw [h] at hzm so
  rcases List.mem_cons.mp hzm with rfl | y
  · exact Int.le_refl _
  · exact (List.pairwise_cons.mp so).1 z y
/-! ### the ways of a position, rising; the positions behind it -/
def waysS (B : Brd) (p : Plc) : List Int := srt (waysB B p)
def behS (B : Brd) (p : Plc) : List Plc := (waysS B p).map (nxt p)
theorem mem_beh {B : Brd} {p q : Plc} : q ∈ behS B p ↔ q ∈ (gameOf B).mv p := by
  show q ∈ (srt (waysB B p)).map (nxt p) ↔ q ∈ (waysB B p).map (nxt p)
  rw [List.mem_map, List.mem_map]
  constructor
  · rintro ⟨y, hy, e⟩; exact ⟨y, srt_mem.mp hy, e⟩
  · rintro ⟨y, hy, e⟩; exact ⟨y, srt_mem.mpr hy, e⟩
theorem beh_len (B : Brd) (p : Plc) : (behS B p).length = (waysB B p).length := by
  unfold behS waysS
  rw [List.length_map, srt_len]
/-! ### which side has won by the positions behind -/
def sidesOf (k : Plc → Val) (qs : List Plc) : List Bool := qs.filterMap fun q => (k q).map (·.1)
def sideB (k : Plc → Val) (t : Bool) (qs : List Plc) : Option Bool := if t ∈ sidesOf k qs then some t else if (sidesOf k qs).length = qs.length then some (!t) else none
theorem mem_sides {k : Plc → Val} {qs : List Plc} {t : Bool} : t ∈ sidesOf k qs ↔ ∃ q ∈ qs, ∃ n, k q = some (t, n) := by
  unfold sidesOf
  rw [List.mem_filterMap]
  constructor
  · rintro ⟨q, hq, e⟩
    cases ek : k q with
    | none => rw [ek] at e; cases e
    | some w =>
      obtain ⟨s, n⟩ := w
      rw [ek] at e
      have e : s = t := Option.some.inj e
      subst e
      exact ⟨q, hq, n, ek⟩
  · rintro ⟨q, hq, n, e⟩
    exact ⟨q, hq, by rw [e]; rfl⟩
theorem sides_full {k : Plc → Val} {qs : List Plc} : (sidesOf k qs).length = qs.length ↔ ∀ q ∈ qs, k q ≠ none := by
  obtain ⟨h1, h2⟩ := fm_len (fun q => (k q).map (·.1)) qs
  constructor
  · intro e q hq z
    have : (sidesOf k qs).length < qs.length := h2.mpr ⟨q, hq, by rw [z]; rfl⟩
    omega
  · intro h
    have : ¬ (sidesOf k qs).length < qs.length := fun z => by
      obtain ⟨q, hq, e⟩ := h2.mp z
      refine h q hq ?_
      cases ek : k q with
      | none => rfl
      | some w => rw [ek] at e; cases e
    have h1 : (sidesOf k qs).length ≤ qs.length := h1
    omega
theorem side_val {B : Brd} {k : Plc → Val} {p : Plc} (hne : waysB B p ≠ []) : sideB k p.t (behS B p) = (valueOf (gameOf B) k p).map (·.1) := by
  have hmv : (gameOf B).mv p ≠ [] := by
    show (waysB B p).map (nxt p) ≠ []
    simpa using hne
  unfold sideB
  cases e : valueOf (gameOf B) k p with
  | none =>
    obtain ⟨h1, q, hq, eq⟩ := valueOf_none.mp e
    rw [if_neg, if_neg]
    · rfl
    · intro z
      exact sides_full.mp z q (mem_beh.mpr hq) eq
    · intro z
      obtain ⟨q', hq', n, e'⟩ := mem_sides.mp z
      exact h1 q' (mem_beh.mp hq') n e'
  | some v =>
    rcases valueOf_some e hmv with ⟨n, rfl, hw⟩ | ⟨n, rfl, hl⟩
    · obtain ⟨q, hq, eq⟩ := hw.has
      rw [if_pos (show p.t ∈ sidesOf k (behS B p) from mem_sides.mpr ⟨q, mem_beh.mpr hq, n, eq⟩)]
      rfl
    · have all : ∀ q ∈ (gameOf B).mv p, ∃ m, k q = some (!p.t, m) := fun q hq => by
        obtain ⟨m, em, _⟩ := hl.all q hq
        exact ⟨m, em⟩
      rw [if_neg, if_pos]
      · rfl
      · refine sides_full.mpr fun q hq z => ?_
        obtain ⟨m, em⟩ := all q (mem_beh.mp hq)
        rw [em] at z
        cases z
      · intro z
        obtain ⟨q', hq', n', e'⟩ := mem_sides.mp z
        obtain ⟨m, em⟩ := all q' (mem_beh.mp hq')
        rw [em] at e'
        injection e' with e'
        injection e' with e' _
        exact absurd e' (not_self p.t)
/-! ### the rounds of the program -/
def kQ (B : Brd) (r : Nat) (p : Plc) : Val := if p ∈ allPos B.n then Kn (gameOf B) r p else none
theorem kQ_in {B : Brd} {r : Nat} {p : Plc} (h : p ∈ allPos B.n) : kQ B r p = Kn (gameOf B) r p := if_pos h
theorem kQ_out {B : Brd} {r : Nat} {p : Plc} (h : p ∉ allPos B.n) : kQ B r p = none := if_neg h
/-- the positions at which the game goes on -/
def goB (B : Brd) : List Plc := (allPos B.n).filter fun p => (winAt B p).isNone
theorem mem_go {B : Brd} {p : Plc} : p ∈ goB B ↔ p ∈ allPos B.n ∧ winAt B p = none := by
  unfold goB
  rw [List.mem_filter, Option.isNone_iff_eq_none]
theorem go_nodup (B : Brd) : (goB B).Nodup := (allPos_nodup B.n).filter _
theorem go_ways {B : Brd} {p : Plc} (h : winAt B p = none) : waysB B p ≠ [] := fun z => goes B p h (by show (waysB B p).map (nxt p) = []; rw [z]; rfl)
theorem valueOf_kQ {B : Brd} (g : Good B) {r : Nat} {p : Plc} (h : p ∈ allPos B.n) : valueOf (gameOf B) (kQ B r) p = valueOf (gameOf B) (Kn (gameOf B) r) p := by
  have e : ((gameOf B).mv p).filterMap (kQ B r) = ((gameOf B).mv p).filterMap (Kn (gameOf B) r) := fm_congr fun q hq => kQ_in ((closed g).stays p h q hq)
  unfold valueOf
  rw [e]
theorem side_new {B : Brd} (g : Good B) {r : Nat} {p : Plc} (h : p ∈ goB B) (hk : Kn (gameOf B) r p = none) : sideB (kQ B r) p.t (behS B p) = (Kn (gameOf B) (r + 1) p).map (·.1) := by
  obtain ⟨h1, h2⟩ := mem_go.mp h
  rw [side_val (go_ways h2), valueOf_kQ g h1, Kn_new hk]
/-- those that are new in a round -/
def isNew (B : Brd) (r : Nat) (p : Plc) : Bool := (Kn (gameOf B) r p).isNone && (Kn (gameOf B) (r + 1) p).isSome
def newQ (B : Brd) (r : Nat) : List Plc := (goB B).filter (isNew B r)
theorem mem_new {B : Brd} {r : Nat} {p : Plc} : p ∈ newQ B r ↔ p ∈ goB B ∧ Kn (gameOf B) r p = none ∧ ∃ s, Kn (gameOf B) (r + 1) p = some (s, r + 1) := by
  unfold newQ isNew
  rw [List.mem_filter, Bool.and_eq_true, Option.isNone_iff_eq_none]
  constructor
  · rintro ⟨h1, h2, h3⟩
    obtain ⟨⟨s, n⟩, e⟩ := isSome_some h3
    refine ⟨h1, h2, s, ?_⟩
    obtain ⟨c1, c2⟩ := Kn_count (goes B) (r + 1) p s n e
    have : n = r + 1 := by
      refine Classical.byContradiction fun z => ?_
      have := Kn_mono c2 (show n ≤ r by omega)
      rw [h2] at this
      cases this
    rw [e, this]
  · rintro ⟨h1, h2, s, h3⟩
    exact ⟨h1, h2, by rw [h3]; rfl⟩
theorem new_nodup (B : Brd) (r : Nat) : (newQ B r).Nodup := (go_nodup B).filter _
/-- known while the round's finds are written -/
def kS (B : Brd) (r j : Nat) (q : Plc) : Val := if q ∈ (newQ B r).take j then Kn (gameOf B) (r + 1) q else kQ B r q
theorem kS_zero (B : Brd) (r : Nat) (q : Plc) : kS B r 0 q = kQ B r q := by
  unfold kS
  rw [List.take_zero, if_neg (fun z => nomatch z)]
theorem take_nw {α : Type} {l : List α} (hn : l.Nodup) {i : Nat} {x : α} (h : l[i]? = some x) : x ∉ l.take i := by
  intro z
  obtain ⟨hi, e⟩ := List.getElem?_eq_some_iff.mp h
  obtain ⟨j, hj, ej⟩ := List.mem_iff_getElem.mp z
  rw [List.length_take] at hj
  rw [List.getElem_take] at ej
  exact List.pairwise_iff_getElem.mp hn j i (by omega) hi (by omega) (ej.trans e.symm)
theorem take_mm {α : Type} {l : List α} {i : Nat} {x : α} (h : l[i]? = some x) (q : α) : q ∈ l.take (i + 1) ↔ q = x ∨ q ∈ l.take i := by
  rw [List.take_add_one, h]
  simp [or_comm]
theorem kS_old {B : Brd} {r j : Nat} {p : Plc} (h : (newQ B r)[j]? = some p) : kS B r j p = none := by
  obtain ⟨h1, h2, _⟩ := mem_new.mp (List.mem_of_getElem? h)
  unfold kS
  rw [if_neg (take_nw (new_nodup B r) h), kQ_in (mem_go.mp h1).1]
  exact h2
theorem kS_step {B : Brd} {r j : Nat} {p : Plc} {s : Bool} (h : (newQ B r)[j]? = some p) (hs : Kn (gameOf B) (r + 1) p = some (s, r + 1)) (q : Plc) : (if q = p then some (s, r + 1) else kS B r j q) = kS B r (j + 1) q := by
  have e := take_mm h q
  unfold kS
  by_cases z : q = p
  · subst z
    rw [if_pos rfl, if_pos (e.mpr (.inl rfl)), hs]
  · rw [if_neg z]
    by_cases z2 : q ∈ (newQ B r).take j
    · rw [if_pos z2, if_pos (e.mpr (.inr z2))]
    · rw [if_neg z2, if_neg (fun y => (e.mp y).elim z z2)]
theorem kS_in {B : Brd} {r j : Nat} {q : Plc} (h : (kS B r j q).isSome = true) : q ∈ allPos B.n := by
  refine Classical.byContradiction fun z => ?_
  unfold kS at h
  rw [kQ_out z, if_neg] at h
  · cases h
  · intro y
    exact z (mem_go.mp (mem_new.mp (List.mem_of_mem_take y)).1).1
theorem Kn_go {B : Brd} {r : Nat} {p : Plc} (h : Kn (gameOf B) r p = none) : winAt B p = none := Kn_nowin h
theorem kS_end (B : Brd) (r : Nat) (q : Plc) : kS B r (newQ B r).length q = kQ B (r + 1) q := by
  unfold kS
  rw [List.take_length]
  by_cases hq : q ∈ allPos B.n
  · rw [kQ_in hq, kQ_in hq]
    by_cases z : q ∈ newQ B r
    · rw [if_pos z]
    · rw [if_neg z]
      cases e : Kn (gameOf B) r q with
      | some v => rw [Kn_succ e]
      | none =>
        cases e2 : Kn (gameOf B) (r + 1) q with
        | none => rfl
        | some v =>
          refine absurd ?_ z
          unfold newQ isNew
          refine List.mem_filter.mpr ⟨mem_go.mpr ⟨hq, Kn_go e⟩, ?_⟩
          rw [e, e2]
          rfl
  · rw [kQ_out hq, kQ_out hq, if_neg]
    intro z
    exact hq (mem_go.mp (mem_new.mp z).1).1
theorem rest_Q {B : Brd} {r : Nat} (h : newQ B r = []) : ∀ p ∈ allPos B.n, Kn (gameOf B) (r + 1) p = Kn (gameOf B) r p := by
  intro p hp
  have e := kS_end B r p
  rw [h] at e
  rw [← kQ_in hp, ← kQ_in (r := r) hp, ← e]
  exact kS_zero B r p
/-- the verdicts upon the board alone -/
def kF (B : Brd) (p : Plc) : Val := if p ∈ allPos B.n then verd B p else none
theorem kF_in {B : Brd} {p : Plc} (h : p ∈ allPos B.n) : kF B p = verd B p := if_pos h
theorem kF_rest {B : Brd} (g : Good B) {r : Nat} (h : newQ B r = []) (p : Plc) : kQ B r p = kF B p := by
  by_cases hp : p ∈ allPos B.n
  · rw [kQ_in hp, kF_in hp]
    exact fin_stop (closed g) (rest_Q h) p hp
  · rw [kQ_out hp]
    unfold kF
    rw [if_neg hp]
def leftN (B : Brd) (r : Nat) : Nat := ((allPos B.n).filter fun p => (Kn (gameOf B) r p).isNone).length
theorem leftN_lt {B : Brd} {r : Nat} (h : newQ B r ≠ []) : leftN B (r + 1) < leftN B r := by
  obtain ⟨p, hp⟩ := List.exists_mem_of_ne_nil _ h
  obtain ⟨h1, h2, s, h3⟩ := mem_new.mp hp
  unfold leftN
  refine Classical.byContradiction fun z => ?_
  have := filter_len_eq (l := allPos B.n) (f := fun p => (Kn (gameOf B) (r + 1) p).isNone) (f' := fun p => (Kn (gameOf B) r p).isNone) (fun x _ hx => ?_) (by omega) p (mem_go.mp h1).1 (by rw [h2]; rfl)
  · rw [h3] at this
    cases this
  · cases e : Kn (gameOf B) r x with
    | none => rfl
    | some v => rw [Kn_succ e] at hx; cases hx
/-! ### positions in their order -/
theorem allPos_take {n k : Nat} (h : k < 2 * n * n) : (allPos n).take (k + 1) = (allPos n).take k ++ [posAt n k] := by
  have e : (allPos n)[k]? = some (posAt n k) := by
    unfold allPos
    rw [List.getElem?_map, List.getElem?_range h]
    rfl
  rw [List.take_add_one, e]
  rfl
theorem pos_two {n i j : Nat} (hi : i < n) (hj : j < n) : i * (2 * n) + 2 * j + 1 < 2 * n * n ∧ posAt n (i * (2 * n) + 2 * j) = ⟨i, j, true⟩ ∧ posAt n (i * (2 * n) + 2 * j + 1) = ⟨i, j, false⟩ := by
  have a : InB n ⟨(i : Int), (j : Int), true⟩ := ⟨Int.natCast_nonneg _, by show (i : Int) < n; omega, Int.natCast_nonneg _, by show (j : Int) < n; omega⟩
  have b : InB n ⟨(i : Int), (j : Int), false⟩ := ⟨a.f0, a.f1, a.h0, a.h1⟩
  have ea : ixOf n ⟨(i : Int), (j : Int), true⟩ = i * (2 * n) + 2 * j := by simp [ixOf]
  have eb : ixOf n ⟨(i : Int), (j : Int), false⟩ = i * (2 * n) + 2 * j + 1 := by simp [ixOf, Nat.add_assoc]
  have l := ixOf_lt b
  have pa := posAt_ixOf a
  have pb := posAt_ixOf b
  rw [ea] at pa
  rw [eb] at pb l
  exact ⟨l, pa, pb⟩
end Fx

set_option Elab.async false
set_option linter.all false
set_option maxRecDepth 100000
namespace Fx
open PySem PySem.SetTable PyProof.Rows
section
variable {prog : Program} {w : World} {K : Type} [DecidableEq K] {knd : KeyKind prog w K} {A : Around} {E : Value → Shared → Prop} {s : Shared}
theorem ofA_byValue (n : Nat) {v : Value} (h : carriedByValue v = true) : ofAClassStatement n v = pure false := by
  cases v <;> first | (simp [carriedByValue] at h; done) | (cases n <;> simp [ofAClassStatement])
theorem ofA_tuple {ks : List K} {a : Addr} {Q : Bool → Shared → Prop} (hk : IsTupleKey knd s.heap ks a) (h : Q false s) : wpAny (model prog w) A (ofAClassStatement 8 (.ref a)) Q E s := by
  have hT := hk.typeIs
  obtain ⟨o, items, n, ho, _, hd, hi⟩ := hk
  unfold ofAClassStatement
  refine wpAny_bind (wpAny_typeOf hT ?_)
  simp only [beq_self_eq_true, if_true]
  refine wpAny_bind (wpAny_pure ?_)
  simp only [Bool.not_true, Bool.false_eq_true, if_false]
  refine wpAny_bind (wpAny_seqItems ho hd ?_)
  simp only
  refine wpAny_bind ?_
  show wpAny _ _ (forIn items _ _) _ _ s
  rw [← Array.forIn_toList]
  refine wpAny_forIn_list _ (fun rest r s' => r.1 = none ∧ s' = s ∧ ∀ v ∈ rest, carriedByValue v = true) _ ?_ ?_ _ _ ⟨rfl, rfl, hi.byValue⟩
  · rintro v rest r s' ⟨hr, rfl, hall⟩
    rw [ofA_byValue _ (hall v List.mem_cons_self)]
    refine wpAny_bind (wpAny_pure ?_)
    simp only [Bool.false_eq_true, if_false]
    exact wpAny_pure ⟨rfl, rfl, fun u hu' => hall u (List.mem_cons_of_mem _ hu')⟩
  · rintro ⟨r1, r2⟩ s' ⟨hr, rfl, _⟩
    simp only at hr
    subst hr
    exact wpAny_pure h
/-- a search among tuples shows nothing -/
theorem notSeen {k : List K} {c : Addr} (hx : IsTupleKey knd s.heap k c) {Q : Bool → Shared → Prop} : ∀ (stored : List Value), (∀ y ∈ stored, ∃ b ks, y = .ref b ∧ IsTupleKey knd s.heap ks b) → Q false s →
    wpAny (model prog w) A (searchCouldBeSeen (.ref c) stored) Q E s := by
  intro stored hs h
  unfold searchCouldBeSeen
  refine wpAny_bind ?_
  refine wpAny_forIn_list _ (fun rest r s' => r.1 = none ∧ s' = s ∧ ∀ y ∈ rest, ∃ b ks, y = .ref b ∧ IsTupleKey knd s.heap ks b) _ ?_ ?_ _ _ ⟨rfl, rfl, hs⟩
  · rintro v rest r s' ⟨hr, rfl, hall⟩
    obtain ⟨b, ks, rfl, hb⟩ := hall v List.mem_cons_self
    have hrest := fun y hy => hall y (List.mem_cons_of_mem _ hy)
    simp only [carriedByValue, Bool.and_false, Bool.or_false]
    by_cases hcb : (c == b) = true
    · rw [if_pos hcb]
      exact wpAny_pure ⟨rfl, rfl, hrest⟩
    · rw [if_neg hcb]
      refine wpAny_bind (wpAny_eqIsQuiet_tuple hx ?_)
      simp only [Bool.not_true, Bool.false_eq_true, if_false]
      refine wpAny_bind (wpAny_eqIsQuiet_tuple hb ?_)
      simp only [Bool.not_true, Bool.false_eq_true, if_false]
      refine wpAny_bind (ofA_tuple hx ?_)
      simp only [Bool.false_eq_true, if_false]
      refine wpAny_bind (ofA_tuple hb ?_)
      simp only [Bool.false_eq_true, if_false]
      exact wpAny_pure ⟨rfl, rfl, hrest⟩
  · rintro ⟨r1, r2⟩ s' ⟨hr, rfl, _⟩
    simp only at hr
    subst hr
    exact wpAny_pure h
theorem TabOk.fits {n : Nat} {t : SetTable} (ok : TabOk n t) : t.fits n = true := by
  unfold SetTable.fits SetTable.fill
  rw [ok.dum, ok.place]
  simp
  exact Nat.le_of_lt_succ ok.room
theorem TabOk.gave {n : Nat} {t : SetTable} (ok : TabOk n t) : t.gaveWay = false := by
  unfold SetTable.gaveWay
  have := ok.mask
  simp only [masks, List.mem_cons, List.mem_nil_iff, or_false] at this
  rcases this with e | e | e <;> (rw [e]; rfl)
/-- what the set at a holds: tuples, none of them k -/
structure Others (knd : KeyKind prog w K) (h : Heap) (es : Array (Int × Value)) (k : List K) : Prop where
  all : ∀ e ∈ es.toList, ∃ b ks, e.2 = .ref b ∧ IsTupleKey knd h ks b ∧ ks ≠ k
theorem probe_cases {t : SetTable} {ha : Nat → Int} {h : Int} {p : Probe} {o : Option Met} (e : t.probe ha h p = o) (hd : t.dummies = #[]) {N : Nat} (hN : N < 10 * turns t.mask) (hs : t.slot (advN t N p).j = .empty) (hp : p.dummy = none) :
    (∃ j, o = some (.empty j none)) ∨ ∃ k j i, k < N ∧ o = some (.candidate j i (advN t (k + 1) p)) ∧ t.slot j = .live i ∧ i < t.place.size := by
  subst e
  exact go_spec hd ha h N (10 * turns t.mask) p hN hs hp
theorem advN_dummy (t : SetTable) : ∀ (n : Nat) (p : Probe), (advN t n p).dummy = p.dummy
  | 0, _ => rfl
  | n + 1, p => by
    show (advN t n (t.advance p)).dummy = _
    rw [advN_dummy t n, adv_dummy]
theorem search_new {a c : Addr} {o : Obj} {es : Array (Int × Value)} {ep : Nat} {t : SetTable} {k : List K} {h : Int} {Q : SetFound → Shared → Prop} (hu : A.units < cLine)
    (ho : s.heap.get? a = some o) (hd : o.data = .set es ep t) (ok : TabOk es.size t) (hx : IsTupleKey knd s.heap k c) (oth : Others knd s.heap es k) (q : ∀ j, Q (.free j false) s) :
    ∀ (N F : Nat) (stand : Option Probe), t.slot (advN t N (stand.getD (t.probeStart h))).j = .empty → N < 10 * turns t.mask → N < F → (stand.getD (t.probeStart h)).dummy = none →
      wpAny (model prog w) A (setSearchFrom a (.ref c) h true F stand) Q E s := by
  intro N
  induction N using Nat.strongRecOn with
  | ind N ih =>
    intro F stand hs hN hF hp
    obtain ⟨F, rfl⟩ : ∃ F', F = F' + 1 := ⟨F - 1, by omega⟩
    unfold setSearchFrom
    refine wpAny_bind (wpAny_setState_of ho hd ok.fits ?_)
    simp only
    rw [ok.gave]
    simp only [Bool.false_eq_true, if_false]
    refine wpAny_bind (wpAny_pure ?_)
    split
    · rename_i met heq
      rcases probe_cases heq ok.dum hN hs hp with ⟨j, e⟩ | ⟨n, j, i, hn, e, hsl, hi⟩
      · have e := Option.some.inj e
        subst e
        exact wpAny_pure (q j)
      · have e := Option.some.inj e
        subst e
        simp only
        have hi' : i < es.size := by rw [← ok.place]; exact hi
        obtain ⟨b, ks, eb, hb, hne⟩ := oth.all es[i] (by simp)
        have hei : es[i]? = some (es[i].1, .ref b) := by rw [Array.getElem?_eq_getElem hi', ← eb]
        have tail : wpAny (model prog w) A (do
            let equal ← holding [.ref b] (eqBool (.ref b) (Value.ref c))
            let __x ← setState a
            if (true && equal) = true then pure (SetFound.there none)
              else
                match __x.2.snd.sameMemory t.moves t.mask with
                | some same =>
                  match if same = true then __x.2.snd.slot j else Slot.empty with
                  | Slot.live i' =>
                    match __x.fst[i']? with
                    | some (fst, y') => do
                      let __do_lift ← isSame y' (.ref b)
                      let still ← pure (if __do_lift = true then some i' else none)
                      match still with
                        | none => do
                          rule "set.search.anew"
                          setSearchFrom a (Value.ref c) h true F none
                        | some i' =>
                          if equal = true then pure (SetFound.there (some i'))
                          else setSearchFrom a (Value.ref c) h true F (some (advN t (n + 1) (stand.getD (t.probeStart h))))
                    | none => do
                      let still ← pure none
                      match still with
                        | none => do
                          rule "set.search.anew"
                          setSearchFrom a (Value.ref c) h true F none
                        | some i' =>
                          if equal = true then pure (SetFound.there (some i'))
                          else setSearchFrom a (Value.ref c) h true F (some (advN t (n + 1) (stand.getD (t.probeStart h))))
                  | x => do
                    let still ← pure none
                    match still with
                      | none => do
                        rule "set.search.anew"
                        setSearchFrom a (Value.ref c) h true F none
                      | some i' =>
                        if equal = true then pure (SetFound.there (some i'))
                        else setSearchFrom a (Value.ref c) h true F (some (advN t (n + 1) (stand.getD (t.probeStart h))))
                | x => unsupported "set.changed-during-lookup:is-the-new-block-at-the-old-address") Q E s := by
          refine wpAny_bind (wpAny_holding (wpAny_eqBool_tuple hu hb hx ?_))
          rw [decide_eq_false hne]
          refine wpAny_bind (wpAny_setState_of ho hd ok.fits ?_)
          simp only [Bool.and_false, Bool.false_eq_true, if_false]
          have esm : t.sameMemory t.moves t.mask = some true := by unfold SetTable.sameMemory; simp
          rw [esm]
          simp only [if_true]
          rw [hsl]
          simp only
          rw [hei]
          simp only
          refine wpAny_bind ?_
          have ei : (isSame (.ref b) (.ref b) : Sem Bool) = pure true := by unfold isSame; simp
          rw [ei]
          refine wpAny_pure (wpAny_bind (wpAny_pure ?_))
          simp only [if_true, Bool.false_eq_true, if_false]
          refine ih (N - (n + 1)) (by omega) F _ ?_ (by omega) (by omega) ?_
          · show t.slot (advN t (N - (n + 1)) (advN t (n + 1) (stand.getD (t.probeStart h)))).j = _
            rw [← advN_add, show n + 1 + (N - (n + 1)) = N by omega]
            exact hs
          · show (advN t (n + 1) (stand.getD (t.probeStart h))).dummy = none
            rw [advN_dummy]
            exact hp
        by_cases hled : (!t.led) = true
        · rw [if_pos hled]
          refine wpAny_bind (notSeen hx _ ?_ ?_)
          · intro y hy
            obtain ⟨e, he, rfl⟩ := List.mem_map.mp hy
            have he : e ∈ es.toList := by
              simp at he
              simp
              exact he.1
            obtain ⟨b, ks, e1, e2, _⟩ := oth.all e he
            exact ⟨b, ks, e1, e2⟩
          · simp only [Bool.false_eq_true, if_false]
            rw [hei]
            exact tail
        · rw [if_neg hled, hei]
          exact tail
    · rename_i hno heq
      exfalso
      rcases probe_cases rfl ok.dum hN hs hp with ⟨j, e⟩ | ⟨n, j, i, hn, e, hsl, hi⟩
      · exact heq _ e
      · exact heq _ e
theorem hash_byValue (n : Nat) {v : Value} (h : carriedByValue v = true) : ∃ b, hashByValue n v = pure b := by
  cases v <;> first | (simp [carriedByValue] at h; done) | (cases n <;> exact ⟨_, by unfold hashByValue; rfl⟩)
theorem hashBy_tuple {ks : List K} {a : Addr} {Q : Bool → Shared → Prop} (hk : IsTupleKey knd s.heap ks a) (h : ∀ b, Q b s) : wpAny (model prog w) A (hashByValue 8 (.ref a)) Q E s := by
  have hT := hk.typeIs
  obtain ⟨o, items, n, ho, _, hd, hi⟩ := hk
  unfold hashByValue
  refine wpAny_bind (wpAny_specialOf hT F.slot_tuple_hash.lookup ?_)
  simp only
  refine wpAny_bind (wpAny_seqItems ho hd ?_)
  refine wpAny_bind ?_
  show wpAny _ _ (forIn items _ _) _ _ s
  rw [← Array.forIn_toList]
  refine wpAny_forIn_list _ (fun rest r s' => s' = s ∧ ∀ v ∈ rest, carriedByValue v = true) _ ?_ ?_ _ _ ⟨rfl, hi.byValue⟩
  · rintro v rest r s' ⟨rfl, hall⟩
    obtain ⟨b, e⟩ := hash_byValue 7 (hall v List.mem_cons_self)
    rw [e]
    refine wpAny_bind (wpAny_pure ?_)
    cases b with
    | true =>
      simp only [Bool.not_true, Bool.false_eq_true, if_false]
      exact wpAny_pure ⟨rfl, fun u hu' => hall u (List.mem_cons_of_mem _ hu')⟩
    | false =>
      simp only [Bool.not_false, if_true]
      exact wpAny_pure (wpAny_pure (h _))
  · rintro ⟨r1, r2⟩ s' ⟨rfl, _⟩
    cases r1 with
    | none => exact wpAny_pure (h _)
    | some b => exact wpAny_pure (h _)
/-- a set of tuples at a, by its keys -/
structure SetAt (knd : KeyKind prog w K) (h : Heap) (a : Addr) (ks : List (List K)) : Prop where
  ex : ∃ o es ep t, h.get? a = some o ∧ o.ExactSet ∧ o.data = .set es ep t ∧ TabOk es.size t ∧ es.size * 5 < t.mask * 3 ∧ es.size = ks.length ∧
    ∀ e ∈ es.toList, ∃ b k, e.2 = .ref b ∧ IsTupleKey knd h k b ∧ k ∈ ks
theorem tup_keeps {h h' : Heap} {k : List K} {b a : Addr} {o : Obj} {es : Array (Int × Value)} {ep : Nat} {t : SetTable} (x : IsTupleKey knd h k b) (ho : h.get? a = some o) (hd : o.data = .set es ep t) (hs : Heap.SameBut a h h') : IsTupleKey knd h' k b := by
  obtain ⟨u, items, n, e1, e2, e3, e4⟩ := x
  have ne : b ≠ a := by
    rintro rfl
    rw [e1] at ho
    cases ho
    rw [hd] at e3
    cases e3
  exact ⟨u, items, n, (hs.2 b ne).trans e1, e2, e3, e4⟩
theorem insertAt_size {α : Type} (xs : Array α) (p : Nat) (x : α) : (SetTable.insertAt xs p x).size = xs.size + 1 := by
  unfold SetTable.insertAt
  simp
  omega
theorem insertAt_mem {α : Type} {xs : Array α} {p : Nat} {x y : α} (h : y ∈ (SetTable.insertAt xs p x).toList) : y ∈ xs.toList ∨ y = x := by
  unfold SetTable.insertAt at h
  simp only [Array.toList_append, Array.toList_push, List.mem_append, List.mem_singleton] at h
  rcases h with (h | h) | h
  · left
    simp at h
    exact List.mem_of_mem_take h
  · exact .inr h
  · left
    simp at h
    exact List.mem_of_mem_drop (List.mem_of_mem_take h)
theorem put_ok {n : Nat} {t : SetTable} (ok : TabOk n t) (j : Nat) (hr : n + 1 < t.mask + 1) : TabOk (n + 1) (t.put j).1 ∧ (t.put j).1.mask = t.mask := by
  refine ⟨⟨?_, ?_, ok.mask, hr⟩, rfl⟩
  · show (SetTable.insertAt t.place _ j).size = _
    rw [insertAt_size, ok.place]
  · show (if SetTable.has t.dummies j = true then _ else t.dummies) = #[]
    rw [ok.dum, has_nil]
    rfl
theorem big (n : Nat) (h : n ≤ 1000) : n ≤ sizeLine := Nat.le_trans h (by decide)
theorem put_get {h : Heap} {a : Addr} {o : Obj} {es es2 : Array (Int × Value)} {ep : Nat} {t t2 : SetTable} (ho : h.get? a = some o) (hd : o.data = .set es ep t) : (h.update a (Obj.putSet es2 t2)).get? a = some { o with data := .set es2 (ep + 1) t2 } := by
  have e := Heap.get?_update_self (Obj.putSet es2 t2) ho (by rw [putSet_of es2 t2 hd]; rfl)
  rw [putSet_of es2 t2 hd] at e
  exact e
theorem set_at_put {a : Addr} {o : Obj} {es es2 : Array (Int × Value)} {ep : Nat} {t t2 : SetTable} {ks : List (List K)} {h : Heap} (ho : h.get? a = some o) (hex : o.ExactSet) (hd : o.data = .set es ep t) (ok : TabOk es2.size t2) (hfull : es2.size * 5 < t2.mask * 3)
    (hsz : es2.size = ks.length) (hel : ∀ e ∈ es2.toList, ∃ b k, e.2 = .ref b ∧ IsTupleKey knd h k b ∧ k ∈ ks) : SetAt knd (h.update a (Obj.putSet es2 t2)) a ks := by
  refine ⟨_, es2, ep + 1, t2, put_get ho hd, hex, rfl, ok, hfull, hsz, fun e he => ?_⟩
  obtain ⟨b, k, e1, e2, e3⟩ := hel e he
  exact ⟨b, k, e1, tup_keeps e2 ho hd (Heap.SameBut.update ..), e3⟩
theorem fm_all {α β : Type} (f : α → Option β) : ∀ l : List α, (∀ x ∈ l, (f x).isSome = true) → (l.filterMap f).length = l.length
  | [], _ => rfl
  | a :: r, h => by
    have ha := h a List.mem_cons_self
    rw [List.filterMap_cons]
    cases e : f a with
    | none => rw [e] at ha; cases ha
    | some b => simp [fm_all f r fun x hx => h x (List.mem_cons_of_mem _ hx)]
/-- the new entry is stored, and the table laid anew where it is too full -/
theorem add_tail {a : Addr} {o : Obj} {es es2 : Array (Int × Value)} {ep : Nat} {t t2 : SetTable} {ks : List (List K)} {Q : Bool → Shared → Prop} (ho : s.heap.get? a = some o) (hex : o.ExactSet) (hd : o.data = .set es ep t)
    (hfull : es.size * 5 < t.mask * 3) (hm : t2.mask = t.mask) (ok : TabOk es2.size t2) (hs2 : es2.size = es.size + 1) (hl : es2.size ≤ 62) (hsz : es2.size = ks.length)
    (hel : ∀ e ∈ es2.toList, ∃ b k, e.2 = .ref b ∧ IsTupleKey knd s.heap k b ∧ k ∈ ks) (q : ∀ h', Heap.SameBut a s.heap h' → SetAt knd h' a ks → Q true { s with heap := h' }) :
    wpAny (model prog w) A (do
      storeSet a es2 t2
      if (!false && t2.tooFull) = true then do
          setRelay a (grown (es.size + 1))
          pure true
        else pure true) Q E s := by
  refine wpAny_bind (wpAny_storeSet_of ho hd ?_ (big _ (by omega)))
  have hmask := ok.mask
  simp only [masks, List.mem_cons, List.mem_nil_iff, or_false] at hmask
  have efill : t2.fill = es2.size := by
    unfold SetTable.fill
    rw [ok.dum, ok.place]
    simp
  by_cases hf : t2.tooFull = true
  · rw [hf]
    simp only [Bool.not_false, Bool.and_self, if_true]
    have hf' : t2.mask * 3 ≤ es2.size * 5 := by
      unfold SetTable.tooFull at hf
      rw [efill] at hf
      exact of_decide_eq_true hf
    have h1 := put_get (es2 := es2) (t2 := t2) ho hd
    have cases2 : (es2.size = 5 ∧ t2.mask = 7) ∨ (es2.size = 19 ∧ t2.mask = 31) := by
      rcases hmask with e | e | e <;> omega
    obtain ⟨m, hmm, hsa, hfit⟩ : ∃ m, m ∈ masks ∧ sizeAbove (grown (es.size + 1)) = m + 1 ∧ es2.size * 5 < m * 3 ∧ es2.size ≤ m := by
      rcases cases2 with ⟨e, _⟩ | ⟨e, _⟩
      · refine ⟨31, by decide, ?_, by omega, by omega⟩
        rw [show es.size + 1 = 5 by omega]
        decide
      · refine ⟨127, by decide, ?_, by omega, by omega⟩
        rw [show es.size + 1 = 19 by omega]
        decide
    refine wpAny_bind ?_
    unfold setRelay
    refine wpAny_bind (wpAny_setState_of h1 rfl ok.fits ?_)
    simp only
    rw [hsa]
    have hm2 : ¬ m + 1 > sizeLine := by
      have : m ≤ 127 := by
        simp only [masks, List.mem_cons, List.mem_nil_iff, or_false] at hmm
        omega
      exact Nat.not_lt.mpr (big _ (by omega))
    rw [if_neg hm2]
    obtain ⟨t3, order, er, ok3, hm3, ho3, hlt⟩ := relaid_ok (finger := t2.finger) (moves := t2.movedTo m) (led := t2.led) (plain := t2.plain) hmm (hs := es2.map (·.1)) (by rw [Array.size_map]; exact hfit.2)
    rw [Array.size_map] at ok3 ho3 hlt
    have er2 : t2.relaid (es2.map (·.1)) (grown (es.size + 1)) = some (t3, order) := by
      unfold SetTable.relaid
      rw [hsa]
      exact er
    rw [er2]
    have hsz3 : (order.filterMap (es2[·]?)).size = es2.size := by
      rw [← Array.length_toList, Array.toList_filterMap, fm_all _ _ fun i hi => ?_, Array.length_toList, ho3]
      rw [Array.getElem?_eq_getElem (hlt i hi)]
      rfl
    refine wpAny_bind ?_
    show wpAny _ _ (if ((order.filterMap (es2[·]?)).size != es2.size) = true then _ else pure (order.filterMap (es2[·]?), t3)) _ _ _
    rw [if_neg (by rw [hsz3]; simp)]
    refine wpAny_pure ?_
    simp only
    refine wpAny_storeSet_of h1 rfl ?_ (by rw [hsz3]; exact big _ (by omega))
    refine wpAny_pure (q _ ((Heap.SameBut.update ..).trans (Heap.SameBut.update ..)) ?_)
    refine set_at_put h1 hex rfl (by rw [hsz3]; exact ok3) (by rw [hsz3, hm3]; exact hfit.1) (by rw [hsz3]; exact hsz) fun e he => ?_
    rw [Array.toList_filterMap] at he
    obtain ⟨i, _, ei⟩ := List.mem_filterMap.mp he
    have he2 : e ∈ es2.toList := by
      obtain ⟨hi, e3⟩ := Array.getElem?_eq_some_iff.mp ei
      rw [← e3]
      simp
    obtain ⟨b, k, e1, e2, e3⟩ := hel e he2
    exact ⟨b, k, e1, tup_keeps e2 ho hd (Heap.SameBut.update ..), e3⟩
  · have hf0 : t2.tooFull = false := by simpa using hf
    rw [hf0]
    simp only [Bool.and_false, Bool.false_eq_true, if_false]
    refine wpAny_pure (q _ (Heap.SameBut.update ..) (set_at_put ho hex hd ok ?_ hsz hel))
    unfold SetTable.tooFull at hf0
    rw [efill] at hf0
    have := of_decide_eq_false hf0
    omega
theorem add_new {a c : Addr} {ks : List (List K)} {k : List K} {h : Int} {Q : Bool → Shared → Prop} (hu : A.units < cLine) (S : SetAt knd s.heap a ks) (hk : k ∉ ks) (hl : ks.length ≤ 61) (hx : IsTupleKey knd s.heap k c)
    (q : ∀ h', Heap.SameBut a s.heap h' → SetAt knd h' a (k :: ks) → Q true { s with heap := h' }) : wpAny (model prog w) A (setAddHashed a (.ref c) h) Q E s := by
  obtain ⟨o, es, ep, t, ho, hex, hd, ok, hfull, hsz, hel⟩ := S.ex
  have hmask := ok.mask
  simp only [masks, List.mem_cons, List.mem_nil_iff, or_false] at hmask
  unfold setAddHashed setAddHashedIn
  refine wpAny_holding (wpAny_bind (wpAny_setState_of ho hd ok.fits ?_))
  simp only
  have eb : byScan (.ref c) es = false := rfl
  rw [eb]
  simp only [Bool.false_eq_true, if_false]
  refine wpAny_bind ?_
  obtain ⟨N, hN, hemp⟩ := meets_empty ok h
  have hN2 : N < 100000 := by
    unfold turns at hN
    omega
  unfold setSearch
  refine search_new hu ho hd ok hx ⟨fun e he => ?_⟩ (fun j => ?_) N 100000 none hemp hN hN2 rfl
  · obtain ⟨b, k', e1, e2, e3⟩ := hel e he
    exact ⟨b, k', e1, e2, fun z => hk (z ▸ e3)⟩
  simp only
  refine wpAny_bind (wpAny_setState_of ho hd ok.fits ?_)
  simp only
  obtain ⟨ok2, hm2⟩ := put_ok ok j (by rcases hmask with e | e | e <;> omega)
  have hsz2 : (insertAt es (t.put j).2 (h, Value.ref c)).size = es.size + 1 := insertAt_size _ _ _
  have hel2 : ∀ e ∈ (insertAt es (t.put j).2 (h, Value.ref c)).toList, ∃ b k', e.2 = .ref b ∧ IsTupleKey knd s.heap k' b ∧ k' ∈ k :: ks := fun e he => by
    rcases insertAt_mem he with z | z
    · obtain ⟨b, k', e1, e2, e3⟩ := hel e z
      exact ⟨b, k', e1, e2, List.mem_cons_of_mem _ e3⟩
    · subst z
      exact ⟨c, k, rfl, hx, List.mem_cons_self⟩
  have fin : ∀ t2 : SetTable, TabOk (es.size + 1) t2 → t2.mask = t.mask → wpAny (model prog w) A (do
      storeSet a (insertAt es (t.put j).2 (h, Value.ref c)) t2
      if (!false && t2.tooFull) = true then do
          setRelay a (grown (es.size + 1))
          pure true
        else pure true) Q E s := fun t2 ok2 hm2 =>
    add_tail ho hex hd hfull hm2 (by rw [hsz2]; exact ok2) hsz2 (by rw [hsz2]; omega) (by rw [hsz2, List.length_cons]; omega) hel2 q
  have ok3 : TabOk (es.size + 1) { (t.put j).1 with plain := false } := ⟨ok2.place, ok2.dum, ok2.mask, ok2.room⟩
  by_cases hp : (t.put j).1.plain = true
  · rw [if_pos hp]
    refine wpAny_bind (hashBy_tuple hx fun bv => ?_)
    cases bv with
    | true => exact fin _ ok2 hm2
    | false => exact fin _ ok3 hm2
  · rw [if_neg hp]
    exact wpAny_bind (wpAny_pure (fin _ ok2 hm2))
/-- the list's items are tuples with these keys, not at S and not at I -/
structure Tups (knd : KeyKind prog w K) (h : Heap) (items : Array Value) (keys : List (List K)) (S I : Addr) : Prop where
  len : items.size = keys.length
  at_ : ∀ (j : Nat) (v : Value), items[j]? = some v → ∃ b k, v = .ref b ∧ keys[j]? = some k ∧ IsTupleKey knd h k b ∧ b ≠ S ∧ b ≠ I
theorem tup_kept {h h' : Heap} {k : List K} {b S I : Addr} (x : IsTupleKey knd h k b) (h1 : b ≠ S) (h2 : b ≠ I) (kp : ∀ b o, b ≠ S → b ≠ I → h.get? b = some o → h'.get? b = some o) : IsTupleKey knd h' k b := by
  obtain ⟨u, its, n, e1, e2⟩ := x
  exact ⟨u, its, n, kp b u h1 h2 e1, e2⟩
theorem set_kept {h h' : Heap} {S I : Addr} {ks : List (List K)} (x : SetAt knd h S ks) (hS : S ≠ I) (kp : ∀ b o, b ≠ I → h.get? b = some o → h'.get? b = some o) (nt : ∀ k, ¬ IsTupleKey knd h k I) : SetAt knd h' S ks := by
  obtain ⟨o, es, ep, t, ho, hex, hd, ok, hf, hz, hel⟩ := x.ex
  refine ⟨o, es, ep, t, kp S o hS ho, hex, hd, ok, hf, hz, fun e he => ?_⟩
  obtain ⟨b, k, e1, e2, e3⟩ := hel e he
  have hb : b ≠ I := by
    rintro rfl
    exact nt k e2
  obtain ⟨u, its, n, f1, f2⟩ := e2
  exact ⟨b, k, e1, ⟨u, its, n, kp b u hb f1, f2⟩, e3⟩
theorem iter_not_tuple {h : Heap} {I l : Addr} {i : Nat} (x : h.IsListIter I l i) (k : List K) : ¬ IsTupleKey knd h k I := by
  rintro ⟨u, its, n, e1, e2, _⟩
  obtain ⟨o, ho, hc, _⟩ := x
  rw [ho] at e1
  cases e1
  rw [hc] at e2
  exact absurd e2 (by decide)
theorem loop_tuples {I l S : Addr} {h₀ : Heap} {items : Array Value} {keys : List (List K)} {R : Result → Shared → Prop} (hh : A.handled = none) (hu : A.units + 1 < cLine) (hl₀ : h₀.IsList l items) (hlS : l ≠ S) (hlI : l ≠ I) (hSI : S ≠ I)
    (T : Tups knd h₀ items keys S I) (hnd : keys.Nodup) (hb : keys.length ≤ 62)
    (fin : ∀ (h' : Heap) (tk : Nat), SetAt knd h' S keys.reverse → (∀ b o, b ≠ S → b ≠ I → h₀.get? b = some o → h'.get? b = some o) → R (.ok (.ret .none)) { s with heap := h', toks := tk }) :
    ∀ (m i : Nat) (hp : Heap) (tk : Nat), items.size - i = m → i ≤ items.size → hp.IsListIter I l i → SetAt knd hp S (keys.take i).reverse → (∀ b o, b ≠ S → b ≠ I → h₀.get? b = some o → hp.get? b = some o) →
      codeAny (model prog w) A (.builtin "set.update.loop" ⟨[.ref S, .ref I], []⟩) R { s with heap := hp, toks := tk } := by
  intro m
  induction m with
  | zero =>
    intro i hp tk hm hi it hS kp
    have hl : hp.IsList l items := by
      obtain ⟨o, e, r⟩ := hl₀
      exact ⟨o, kp l o hlS hlI e, r⟩
    refine codeAny_builtin F.entry_set_update_loop ?_
    rw [Around.under_plainId F.plain_set_update_loop _]
    show wpAny _ A.in1 (pyNext (.ref I) >>= _) _ _ _
    refine wpAny_bind (wpAny_pyNext_list_end (by simp [hh]) it hl (by simp; omega) fun h' eb => ?_)
    show wpAny _ A.in1 (ret Value.none) _ _ _
    have e : keys.take i = keys := List.take_of_length_le (by have := T.len; omega)
    rw [e] at hS
    exact wpAny_pure (fin h' tk (set_kept hS hSI (fun b o hb e => eb b o hb e) (iter_not_tuple it)) fun b o h1 h2 e => eb b o h2 (kp b o h1 h2 e))
  | succ m ih =>
    intro i hp tk hm hi it hS kp
    have hl : hp.IsList l items := by
      obtain ⟨o, e, r⟩ := hl₀
      exact ⟨o, kp l o hlS hlI e, r⟩
    have hlt : i < items.size := by omega
    obtain ⟨b, k, ev, ek, hk, hbS, hbI⟩ := T.at_ i items[i] (by simp [hlt])
    refine codeAny_builtin F.entry_set_update_loop ?_
    rw [Around.under_plainId F.plain_set_update_loop _]
    show wpAny _ A.in1 (pyNext (.ref I) >>= _) _ _ _
    refine wpAny_bind (wpAny_pyNext_list_item it hl (x := items[i]) (by simp [hlt]) fun h' it' sb => ?_)
    rw [ev]
    have kp' : ∀ b o, b ≠ S → b ≠ I → h₀.get? b = some o → h'.get? b = some o := fun b o h1 h2 e => (sb.2 b h2).trans (kp b o h1 h2 e)
    have hS' : SetAt knd h' S (keys.take i).reverse := set_kept hS hSI (fun b o hb e => (sb.2 b hb).trans e) (iter_not_tuple it)
    have hk' : IsTupleKey knd h' k b := tup_kept hk hbS hbI kp'
    show wpAny _ A.in1 (holding [Value.ref b] (setAdd S (.ref b)) >>= _) _ _ _
    refine wpAny_bind (wpAny_holding ?_)
    unfold setAdd
    refine wpAny_holding (wpAny_bind (wpAny_pyHash_tuple (show A.units + 1 < cLine from hu) hk' ?_))
    have hnew : k ∉ (keys.take i).reverse := by
      intro z
      rw [List.mem_reverse] at z
      obtain ⟨j, hj, ej⟩ := List.mem_iff_getElem.mp z
      rw [List.length_take] at hj
      obtain ⟨hi2, ek2⟩ := List.getElem?_eq_some_iff.mp ek
      rw [List.getElem_take] at ej
      exact List.pairwise_iff_getElem.mp hnd j i (by omega) hi2 (by omega) (ej.trans ek2.symm)
    refine add_new (s := { s with heap := h', toks := tk + (k.length + 1) }) (show A.units + 1 < cLine from hu) hS' hnew (by rw [List.length_reverse, List.length_take]; have := T.len; omega) hk' fun h2 sb2 hS2 => ?_
    refine wpAny_pure ⟨plainId_quiet F.plain_set_update_loop _, ?_⟩
    refine ih (i + 1) h2 (tk + (k.length + 1)) (by omega) hlt ?_ ?_ ?_
    · obtain ⟨o, e, r⟩ := it'
      exact ⟨o, (sb2.2 I hSI.symm).trans e, r⟩
    · rw [List.take_add_one, ek]
      show SetAt knd h2 S (keys.take i ++ [k]).reverse
      rw [List.reverse_append]
      exact hS2
    · exact fun b o h1 h2 e => (sb2.2 b h1).trans (kp' b o h1 h2 e)
theorem set_new {h : Heap} {S : Addr} {led : Bool} (hS : h.get? S = some { cls := .type "set", dict := none, data := .set #[] 0 (.fresh 0 0 led) }) : SetAt knd h S [] :=
  ⟨_, #[], 0, _, hS, ⟨rfl, rfl, rfl⟩, rfl, ⟨rfl, rfl, by show 7 ∈ masks; decide, by show 0 < 8; decide⟩, by show 0 * 5 < 7 * 3; decide, rfl, fun e he => nomatch he⟩
/-- what set.__init__ does with the list -/
theorem init_tuples {S l : Addr} {led : Bool} {items : Array Value} {keys : List (List K)} {R : Result → Shared → Prop} (hh : A.handled = none) (hu : A.units + 4 < cLine) (hl : s.heap.IsList l items) (hlS : l ≠ S)
    (hS : s.heap.get? S = some { cls := .type "set", dict := none, data := .set #[] 0 (.fresh 0 0 led) })
    (T : Tups knd s.heap items keys S s.heap.objs.size) (hnd : keys.Nodup) (hb : keys.length ≤ 62)
    (fin : ∀ (h' : Heap) (tk : Nat), SetAt knd h' S keys.reverse → (∀ b o, b ≠ S → b ≠ s.heap.objs.size → s.heap.get? b = some o → h'.get? b = some o) → R (.ok (.ret .none)) { s with heap := h', toks := tk }) :
    wpAny (model prog w) A (Builtin.«set.__init__» ⟨[.ref S, .ref l], []⟩) (fun f s' => ∃ fl, f = .done fl ∧ R (.ok fl) s') (fun e s' => R (.error e) s') s := by
  have hl2 := hl
  have SA : SetAt knd s.heap S [] := set_new hS
  obtain ⟨ol, hol, hcl, nl, hdl⟩ := hl
  obtain ⟨ocls, odict, odata, oslots⟩ := ol
  simp only at hcl hdl
  subst hcl hdl
  have hT : Shared.TypeIs s (.ref S) "set" := ⟨_, hS, rfl⟩
  have hsls := F.sub_list_set
  have hslf := F.sub_list_frozenset
  have hne : (Value.type "list" == Value.type "dict") = false := by decide
  unfold Builtin.«set.__init__» noKeywords Builtin.Frozenset.updateFrom
  generalize hPI : pyIter = PI
  wp_walk
  subst hPI
  refine wpAny_pyIter_list hl2 ?_
  have hSlt : S < s.heap.objs.size := Heap.lt_size hS
  have old : ∀ b o, s.heap.get? b = some o → (s.heap.push { cls := .type "list_iterator", data := .fields #[.ref l, .int 0 0] }).get? b = some o := fun b o e => Heap.get?_push_of_some _ e
  have T' : Tups knd (s.heap.push { cls := .type "list_iterator", data := .fields #[.ref l, .int 0 0] }) items keys S s.heap.objs.size := by
    refine ⟨T.len, fun j v e => ?_⟩
    obtain ⟨b, k, e1, e2, ⟨u, its, n, f1, f2⟩, e4, e5⟩ := T.at_ j v e
    exact ⟨b, k, e1, e2, ⟨u, its, n, old b u f1, f2⟩, e4, e5⟩
  have hl3 : (s.heap.push { cls := .type "list_iterator", data := .fields #[.ref l, .int 0 0] }).IsList l items := by
    obtain ⟨o, e, r⟩ := hl2
    exact ⟨o, old l o e, r⟩
  have hlI : l ≠ s.heap.objs.size := Nat.ne_of_lt (Heap.lt_size hol)
  refine wpAny_bind (wpAny_runValue ?_)
  refine loop_tuples (s := s) (h₀ := s.heap.push { cls := .type "list_iterator", data := .fields #[.ref l, .int 0 0] }) (tk := s.toks) hh (by omega) hl3 hlS hlI (Nat.ne_of_lt hSlt) T' hnd hb ?_ (items.size - 0) 0 _ (by omega) (Nat.zero_le _) ⟨_, Heap.get?_push_size _ rfl, rfl, rfl⟩ (set_new (old S _ hS)) (fun b o _ _ e => e)
  intro h' tk hS' kp
  show wpAny _ _ _ _ _ _
  refine wpAny_pure ?_
  show wpAny _ _ (ret Value.none) _ _ _
  exact wpAny_pure ⟨_, rfl, fin h' tk hS' fun b o h1 h2 e => kp b o h1 h2 (old b o e)⟩
/-- set(xs) of a list of tuples that all differ -/
theorem call_set_tuples {l : Addr} {items : Array Value} {keys : List (List K)} {Q : Value → Shared → Prop} (hh : A.handled = none) (hu : A.units + 10 < cLine) (hl : s.heap.IsList l items)
    (T : Tups knd s.heap items keys s.heap.objs.size (s.heap.objs.size + 1)) (hnd : keys.Nodup) (hb : keys.length ≤ 62)
    (q : ∀ (h' : Heap) (tk : Nat), SetAt knd h' s.heap.objs.size keys.reverse → (∀ b o, b < s.heap.objs.size → s.heap.get? b = some o → h'.get? b = some o) → Q (.ref s.heap.objs.size) { s with heap := h', toks := tk }) :
    wpAny (model prog w) A (call (.type "set") [.ref l]) Q E s := by
  have mro := F.called_set.mro; obtain ⟨c0, tl0, mro⟩ := mro
  have made := F.called_set.made; have subs := F.called_set.sub
  refine wpAny_call (codeAny_of_tree ?_)
  show wpAny _ _ (callAny (.type "set") _) _ _ _
  refine wpAny_pure ⟨Code.quiet_builtin _ (by decide +kernel), codeAny_builtin F.entry_type_call ?_⟩
  rw [Around.under_plain (weight_type_call_type "set" [.ref l] []) rfl]
  have n1 := F.called_set.notType; have n2 := F.called_set.canCreate; have n3 := F.typeCall_set_1 (.ref l)
  repeat (any_goals (first | assumption | wp_step))
  have made1 := code_set_new_1 (prog := prog) (w := w) (A := A.in1) (s := s) (.ref l) (E := E) (Q₁ := fun ob s₁ => ∃ led : Bool, ob = .ref s.heap.objs.size ∧ s₁ = { s with heap := s.heap.push { cls := .type "set", dict := none, data := .set #[] 0 (.fresh 0 0 led) } }) fun led => ⟨led, rfl, rfl⟩
  refine codeAny_mono made1 fun r s₁ hr => ?_
  match r, hr with
  | .error e, hr => exact hr
  | .ok (.ret ob), hr =>
    obtain ⟨led, e1, e2⟩ := hr
    subst e1 e2
    have hS0 : (s.heap.push { cls := .type "set", dict := none, data := .set #[] 0 (.fresh 0 0 led) }).get? s.heap.objs.size = some { cls := .type "set", dict := none, data := .set #[] 0 (.fresh 0 0 led) } := Heap.get?_push_size _ rfl
    have ty0 : Shared.TypeIs { s with heap := s.heap.push { cls := .type "set", dict := none, data := .set #[] 0 (.fresh 0 0 led) } } (.ref s.heap.objs.size) "set" := ⟨_, hS0, rfl⟩
    have li := F.called_set.init.lookup; have bi := F.called_set.init.bind (.ref s.heap.objs.size)
    repeat (any_goals (first | assumption | wp_step))
    have old : ∀ b o, s.heap.get? b = some o → (s.heap.push { cls := .type "set", dict := none, data := .set #[] 0 (.fresh 0 0 led) }).get? b = some o := fun b o e => Heap.get?_push_of_some _ e
    have hl1 : (s.heap.push { cls := .type "set", dict := none, data := .set #[] 0 (.fresh 0 0 led) }).IsList l items := by
      obtain ⟨o, e, r⟩ := hl
      exact ⟨o, old l o e, r⟩
    have hlt : l < s.heap.objs.size := by
      obtain ⟨o, e, r⟩ := hl
      exact Heap.lt_size e
    have T1 : Tups knd (s.heap.push { cls := .type "set", dict := none, data := .set #[] 0 (.fresh 0 0 led) }) items keys s.heap.objs.size (s.heap.push { cls := .type "set", dict := none, data := .set #[] 0 (.fresh 0 0 led) }).objs.size := by
      refine ⟨T.len, fun j v e => ?_⟩
      obtain ⟨b, k, f1, f2, ⟨u, its, n, g1, g2⟩, f4, f5⟩ := T.at_ j v e
      exact ⟨b, k, f1, f2, ⟨u, its, n, old b u g1, g2⟩, f4, by rw [Heap.size_push]; exact f5⟩
    refine codeAny_mono (codeAny_call_builtin (R := wants (fun r s₂ => r = .none ∧ ∃ h' tk, s₂ = { s with heap := h', toks := tk } ∧ SetAt knd h' s.heap.objs.size keys.reverse ∧ (∀ b o, b < s.heap.objs.size → s.heap.get? b = some o → h'.get? b = some o)) E)
      F.called_set.init.plain F.entry_set_init (check_set_init_1 ty0 ?_)) fun r₂ s₂ hr₂ => ?_
    · refine wpAny_mono (init_tuples (s := { s with heap := s.heap.push { cls := .type "set", dict := none, data := .set #[] 0 (.fresh 0 0 led) } }) (R := wants (fun r s₂ => r = .none ∧ ∃ h' tk, s₂ = { s with heap := h', toks := tk } ∧ SetAt knd h' s.heap.objs.size keys.reverse ∧ (∀ b o, b < s.heap.objs.size → s.heap.get? b = some o → h'.get? b = some o)) E) (by simp [hh]) ?_ hl1 (Nat.ne_of_lt hlt) hS0 T1 hnd hb ?_) (fun f s' ⟨fl, e, z⟩ => by subst e; exact z) fun e s' z => z
      · show A.units + 1 + 1 + 4 < cLine
        omega
      · intro h' tk z kp
        refine ⟨rfl, h', tk, rfl, z, fun b o hb2 e => kp b o (Nat.ne_of_lt hb2) ?_ (old b o e)⟩
        rw [Heap.size_push]
        exact Nat.ne_of_lt (Nat.lt_succ_of_lt hb2)
    · match r₂, hr₂ with
      | .error e, z => exact z
      | .ok (.ret rr), z =>
        obtain ⟨z1, h', tk, z2, z3, z4⟩ := z
        subst z1 z2
        repeat (any_goals (first | assumption | wp_step))
        exact q _ _ z3 z4
      | .ok .next, z => exact z.elim
      | .ok .brk, z => exact z.elim
      | .ok .cont, z => exact z.elim
  | .ok .next, hr => exact hr.elim
  | .ok .brk, hr => exact hr.elim
  | .ok .cont, hr => exact hr.elim
end
end Fx

set_option Elab.async false
set_option linter.all false
set_option maxRecDepth 100000
namespace Fx
open PySem PySem.Spec PyProof.Rows L2
/-- a set of that size stands at a -/
def SetN (a : Addr) (n : Nat) : Heap → Prop := fun h => ∃ o es ep t, h.get? a = some o ∧ o.ExactSet ∧ o.data = .set es ep t ∧ SetTable.fits t es.size = true ∧ es.size = n
theorem SetN.ok {P : Program} {w : World} {H : Hp} {h : Heap} {a : Addr} {n : Nat} (x : SetN a n h) : ObjOk P w H h a (.ext (SetN a n)) := by
  obtain ⟨o, es, ep, t, ho, r⟩ := id x
  refine ⟨x, ⟨o, ho⟩, fun h1 h2 y k => ?_⟩
  obtain ⟨o, es, ep, t, ho, r⟩ := y
  exact ⟨o, es, ep, t, k o ho, r⟩
theorem SetAt.size {prog : Program} {w : World} {K : Type} [DecidableEq K] {knd : KeyKind prog w K} {h : Heap} {a : Addr} {ks : List (List K)} (x : SetAt knd h a ks) : SetN a ks.length h := by
  obtain ⟨o, es, ep, t, ho, hex, hd, ok, _, hz, _⟩ := x.ex
  exact ⟨o, es, ep, t, ho, hex, hd, ok.fits, hz⟩
section
variable {X : Cx}
def KeyAt (H : Hp) (v : V) (k : List Key) : Prop := ∃ b, v = .ref b ∧ H b = some (.tup (k.map kV))
theorem paired_get {α β : Type} {F : α → β → Prop} : ∀ {l : List α} {m : List β} {i : Nat} {x : α}, Paired F l m → l[i]? = some x → ∃ y, m[i]? = some y ∧ F x y
  | _, _, _, _, .nil, h => by simp at h
  | _, _, 0, _, .cons a t, h => by simp at h; subst h; exact ⟨_, rfl, a⟩
  | _, _, i + 1, _, .cons a t, h => by
    obtain ⟨y, h1, h2⟩ := paired_get (i := i) t (by simpa using h)
    exact ⟨y, by simpa using h1, h2⟩
/-- set(xs), tuples that all differ -/
theorem call_setT (hc : X.calm = true) {k : Nat} (hr : Room k X.A) : CallR X (.type "set") (fun xs H Q => ∃ (p : Addr) (vs : List V) (keys : List (List Key)), xs = [.ref p] ∧ H p = some (.lst vs) ∧ Paired (KeyAt H) vs keys ∧ keys.Nodup ∧ keys.length ≤ 62 ∧
    ∀ a, H a = none → Q (.ref a) (upd H a (.ext (SetN a keys.length)))) := by
  intro pins s σ H xs us Q I r h
  obtain ⟨p, vs, keys, rfl, hp, pk, hnd, hl, q⟩ := h
  obtain ⟨u, rfl, ru⟩ := vals1 r
  cases (show u = Value.ref p from ru)
  obtain ⟨z, its, n, rv, e⟩ := (show ObjOk X.prog X.w H s.heap p (.lst vs) from I.hok p _ hp)
  have hu := hr.units
  have T : Tups (mixKind X.prog X.w) s.heap its.toArray keys s.heap.objs.size (s.heap.objs.size + 1) := by
    refine ⟨?_, fun j v ej => ?_⟩
    · rw [List.size_toArray, ← rv.length]
      exact Paired.length pk
    · have ej : its[j]? = some v := by simpa using ej
      have hj : j < vs.length := by
        rw [rv.length]
        exact (List.getElem?_eq_some_iff.mp ej).1
      obtain ⟨u', e1, e2⟩ := rv.get (i := j) (x := vs[j]) (by simp [hj])
      rw [ej] at e1
      cases e1
      obtain ⟨ky, e3, b, e4, e5⟩ := paired_get pk (i := j) (x := vs[j]) (by simp [hj])
      rw [e4] at e2
      cases (show v = Value.ref b from e2)
      have hb := key_of I.hok e5
      have hlt : b < s.heap.objs.size := I.hok.lt e5
      exact ⟨b, ky, rfl, e3, hb, Nat.ne_of_lt hlt, Nat.ne_of_lt (Nat.lt_succ_of_lt hlt)⟩
  refine call_set_tuples (knd := mixKind X.prog X.w) (I.ok.hd hc) (by omega) ⟨_, e, rfl, n, rfl⟩ T hnd hl fun h' tk hS kp => ?_
  have hn : H s.heap.objs.size = none := I.fresh
  have sn := hS.size
  rw [List.length_reverse] at sn
  exact ⟨.ref s.heap.objs.size, _, I.laid (a := s.heap.objs.size) (o := .ext (SetN s.heap.objs.size keys.length)) (t' := tk) (fun b o eb => kp b o (Heap.lt_size eb) eb) (Nat.le_refl _) sn.ok, rfl, q _ hn⟩
theorem firstMet_nodup {ns : List Int} (h : ns.Nodup) : ∀ i, i ≤ ns.length → firstMet (fun i => ns.getD i 0) i = ns.take i
  | 0, _ => by simp [firstMet_zero]
  | i + 1, hi => by
    have hlt : i < ns.length := hi
    rw [firstMet_succ, firstMet_nodup h i (by omega), List.take_add_one, List.getElem?_eq_getElem hlt]
    have eg : ns.getD i 0 = ns[i] := by rw [List.getD_eq_getElem?_getD, List.getElem?_eq_getElem hlt]; rfl
    rw [eg]
    unfold step_dedup
    rw [if_neg]
    · rfl
    · intro z
      obtain ⟨x, hx, e⟩ := List.any_eq_true.mp z
      have e : x = ns[i] := by simpa using e
      subst e
      obtain ⟨j, hj, ej⟩ := List.mem_iff_getElem.mp hx
      rw [List.length_take] at hj
      rw [List.getElem_take] at ej
      exact List.pairwise_iff_getElem.mp h j i (by omega) hlt (by omega) ej
/-- set(xs), ints that all differ -/
theorem call_setI (hc : X.calm = true) : CallR X (.type "set") (fun xs H Q => ∃ (p : Addr) (ns : List Int), xs = [.ref p] ∧ H p = some (.lst (ns.map V.int)) ∧ ns.Nodup ∧ ns.length ≤ 62 ∧
    ∀ a, H a = none → Q (.ref a) (upd H a (.ext (SetN a ns.length)))) := by
  intro pins s σ H xs us Q I r h
  obtain ⟨p, ns, rfl, hp, hnd, hl, q⟩ := h
  obtain ⟨u, rfl, ru⟩ := vals1 r
  cases (show u = Value.ref p from ru)
  obtain ⟨z, its, n, rv, e⟩ := (show ObjOk X.prog X.w H s.heap p (.lst (ns.map V.int)) from I.hok p _ hp)
  have hlen := rv.length
  rw [List.length_map] at hlen
  have hsz : its.toArray.size = ns.length := by rw [List.size_toArray, hlen]
  refine PySem.call_set_list (l := p) (items := its.toArray) (ns := ns) (I.ok.hd hc) ⟨_, e, rfl, n, rfl⟩ (by simpa using intsAre_of rv) (by rw [hsz]; unfold scanBound; omega) fun h' tk hS kp => ?_
  rw [hsz, firstMet_nodup hnd _ (Nat.le_refl _), List.take_length] at hS
  obtain ⟨o, es, ep, t, ho, hex, hd, _, _, _, hf, hz⟩ := hS
  have hn : H s.heap.objs.size = none := I.fresh
  have sn : SetN s.heap.objs.size ns.length h' := ⟨o, es, ep, t, ho, hex, hd, hf, hz⟩
  exact ⟨.ref s.heap.objs.size, _, I.laid (a := s.heap.objs.size) (o := .ext (SetN s.heap.objs.size ns.length)) (t' := tk) (fun b o eb => kp b o (Heap.lt_size eb) eb) (Nat.le_refl _) sn.ok, rfl, q _ hn⟩
/-- len of a set -/
theorem call_lenS : CallR X (.builtin "len") (fun xs H Q => ∃ (a : Addr) (n : Nat), xs = [.ref a] ∧ H a = some (.ext (SetN a n)) ∧ n ≤ 1000 ∧ Q (.int n) H) := by
  intro pins s σ H xs us Q I r h
  obtain ⟨a, n, rfl, ha, hn, q⟩ := h
  obtain ⟨u, rfl, ru⟩ := vals1 r
  cases (show u = Value.ref a from ru)
  obtain ⟨⟨o, es, ep, t, ho, hex, hd, hf, hz⟩, _⟩ := (show ObjOk X.prog X.w H s.heap a (.ext (SetN a n)) from I.hok a _ ha)
  refine PySem.call_len_set ho hex hd hf (by omega) ⟨.int n, H, I.tok _, ⟨_, by rw [hz]⟩, q⟩
theorem tt_go {i : Nat} {x : V} {τ : L2.St} {H : Hp} {A B : L2.St → Hp → Prop} (h : A (τ.set i (some x)) H) : gName i x τ H fun τ2 H3 => ttT τ2 H3 fun b H4 => if b = true then A τ2 H4 else B τ2 H4 := by
  show if true = true then A (τ.set i (some x)) H else B (τ.set i (some x)) H
  exact iteT h
theorem b_set : bootBuiltins "set" = some (.type "set") := by decide +kernel
theorem CallR.or2 {f : Value} {r r' : List V → Hp → VK → Prop} (h : CallR X f r) (h' : CallR X f r') : CallR X f (fun xs H Q => r xs H Q ∨ r' xs H Q) := CallR.or h h'
end
end Fx

set_option Elab.async false
set_option linter.all false
set_option maxRecDepth 100000
namespace Fx
open PySem PySem.Spec PyProof.Rows L2
/-! ### sides, positions as data -/
def sd (t : Bool) : Str := if t = true then "fox" else "hen"
theorem fox_hen : ¬ (("fox" : Str) = "hen") := by decide +kernel
theorem sd_can (t : Bool) : PyData.canLay0 (.str (sd t)) = true := by cases t <;> decide +kernel
theorem open_can : PyData.canLay0 (.str "open") = true := by decide +kernel
theorem sd_inj {t u : Bool} (h : sd t = sd u) : t = u := by
  cases t <;> cases u
  · rfl
  · exact absurd h.symm fox_hen
  · exact absurd h fox_hen
  · rfl
theorem sd_fox (t : Bool) : decide (V.str (sd t) = V.str "fox") = t := by
  cases t
  · exact decide_eq_false fun e => fox_hen (V.str.inj e).symm
  · exact decide_eq_true rfl
theorem sd_hen (t : Bool) : decide (V.str (sd t) = V.str "hen") = !t := by
  cases t
  · exact decide_eq_true rfl
  · exact decide_eq_false fun e => fox_hen (V.str.inj e)
theorem sd_eq (t u : Bool) : decide (V.str (sd t) = V.str (sd u)) = decide (t = u) := by
  by_cases h : t = u
  · subst h; rw [decide_eq_true rfl, decide_eq_true rfl]
  · rw [decide_eq_false h, decide_eq_false fun e => h (sd_inj (V.str.inj e))]
def posD (p : Plc) : PyData := .tuple [.int p.f, .int p.h, .str (sd p.t)]
def posV (p : Plc) : List V := [.int p.f, .int p.h, .str (sd p.t)]
def posK (p : Plc) : List Key := [.inl p.f, .inl p.h, .inr (sd p.t)]
theorem posK_inj {p q : Plc} (h : posK p = posK q) : p = q := by
  obtain ⟨a, b, c⟩ := p
  obtain ⟨d, e, f⟩ := q
  unfold posK at h
  injection h with h1 h
  injection h with h2 h
  injection h with h3 _
  injection h1 with h1
  injection h2 with h2
  injection h3 with h3
  simp only at h1 h2 h3
  rw [h1, h2, sd_inj h3]
theorem At.pos {H : Hp} {v : V} {p : Plc} (h : At H v (posD p)) : ∃ a, v = .ref a ∧ H a = some (.tup (posV p)) := by
  cases h with
  | tup e t =>
    cases t with
    | cons a t =>
      cases t with
      | cons b t =>
        cases t with
        | cons c t =>
          cases t
          cases a
          cases b
          cases c
          exact ⟨_, rfl, e⟩
theorem pos_at {H : Hp} {a : Addr} {p : Plc} (h : H a = some (.tup (posV p))) : At H (.ref a) (posD p) := .tup h (.cons (.int _) (.cons (.int _) (.cons (.str (sd_can _)) .nil)))
def wV : Option Bool → V
  | none => .non
  | some t => .str (sd t)
theorem pos_depth (p : Plc) : (posD p).depth ≤ 60 := by simp [posD, PyData.depth, PyData.depthAll]
theorem eqv_pos (p q : Plc) : PyData.eqv (posD p) (posD q) = decide (p = q) := by
  obtain ⟨a, b, c⟩ := p
  obtain ⟨d, e, f⟩ := q
  simp only [posD, PyData.eqv, PyData.eqvAll, Bool.and_true]
  by_cases h1 : a = d
  · by_cases h2 : b = e
    · by_cases h3 : c = f
      · subst h1 h2 h3; simp
      · have : (sd c == sd f) = false := by simpa using fun z => h3 (sd_inj z)
        simp [h1, h2, h3, this]
    · simp [h1, h2]
  · simp [h1]
/-- what grows keeps the stable part -/
theorem Ext.grow {G H H' : Hp} (s : Same G H) (h : Same H H') : Ext G H G H' := ⟨Same.refl _, s.trans h, h, fun a o h1 h2 => by rw [h1] at h2; cases h2⟩
theorem any_int (ns : List Int) (z : Int) : (ns.map PyData.int).any (fun e => PyData.eqv e (.int z)) = decide (z ∈ ns) := by
  induction ns with
  | nil => simp
  | cons a r ih =>
    rw [List.map_cons, List.any_cons, ih]
    simp only [PyData.eqv]
    by_cases h : a = z
    · subst h; simp
    · have h' : ¬ z = a := fun e => h e.symm
      simp [h, h']
end Fx

set_option Elab.async false
set_option linter.all false
set_option maxRecDepth 100000
namespace Fx
open PySem PySem.Spec PyProof.Rows L2
section
variable {X : Cx} {K : PySem.W.Frag}
theorem pgTup_K (n : Nat) (h : X.K = K) {es : List Expr} {k : Nat} {t : TGs} {pos : Pos} (hc : X.calm = true) (hg : PGs X es t) (hn : (assignEach es X.env).length = n := by rfl) (hst : (assignEach es X.env).findIdx? (·.1) = none := by rfl) :
    PG X (.Tuple es k pos) (gTup K n t) := by
  subst h
  exact pg_tup hc hg hn hst
end
/-! ### verdicts as data -/
def vD (w : Bool × Nat) : PyData := .tuple [.str (sd w.1), .int (w.2 : Int)]
theorem At.vd {H : Hp} {v : V} {w : Bool × Nat} (h : At H v (vD w)) : ∃ a, v = .ref a ∧ H a = some (.tup [.str (sd w.1), .int (w.2 : Int)]) := by
  cases h with
  | tup e t =>
    cases t with
    | cons a t =>
      cases t with
      | cons b t =>
        cases t
        cases a
        cases b
        exact ⟨_, rfl, e⟩
theorem vd_at {H : Hp} {a : Addr} {w : Bool × Nat} (h : H a = some (.tup [.str (sd w.1), .int (w.2 : Int)])) : At H (.ref a) (vD w) := .tup h (.cons (.str (sd_can _)) (.cons (.int _) .nil))
/-- a verdict or None -/
def ValAt (G : Hp) (v : V) : Val → Prop
  | none => v = .non
  | some w => At G v (vD w)
theorem ValAt.mono {G G' : Hp} {v : V} {x : Val} (h : ValAt G v x) (s : Same G G') : ValAt G' v x := by
  cases x with
  | none => exact h
  | some w => exact At.mono s h
/-- the dict at a tells k -/
structure Tells (G : Hp) (kvs : List (List Key × V)) (ps : List Plc) (k : Plc → Val) : Prop where
  keys : kvs.map (·.1) = ps.map posK
  nd : ps.Nodup
  has : ∀ p, p ∈ ps ↔ (k p).isSome = true
  at_ : ∀ p, ValAt G ((valV kvs (posK p)).getD .non) (k p)
theorem Tells.mono {G G' : Hp} {kvs : List (List Key × V)} {ps : List Plc} {k : Plc → Val} (h : Tells G kvs ps k) (s : Same G G') : Tells G' kvs ps k :=
  ⟨h.keys, h.nd, h.has, fun p => (h.at_ p).mono s⟩
theorem Tells.len {G : Hp} {kvs : List (List Key × V)} {ps : List Plc} {k : Plc → Val} (h : Tells G kvs ps k) : kvs.length = ps.length := by
  rw [← List.length_map (f := (·.1)), h.keys, List.length_map]
theorem Tells.put {G : Hp} {kvs : List (List Key × V)} {ps : List Plc} {k : Plc → Val} (h : Tells G kvs ps k) {p : Plc} {v : V} {w : Bool × Nat} (hp : p ∉ ps) (hv : At G v (vD w)) :
    Tells G (putK kvs (posK p) v) (ps ++ [p]) (fun q => if q = p then some w else k q) := by
  have hno : valV kvs (posK p) = none := by
    cases e : valV kvs (posK p) with
    | none => rfl
    | some u =>
      have hm := valV_in e
      rw [h.keys] at hm
      obtain ⟨q, hq, eq⟩ := List.mem_map.mp hm
      rw [posK_inj eq] at hq
      exact absurd hq hp
  refine ⟨?_, ?_, fun q => ?_, fun q => ?_⟩
  · rw [putK_new v hno, List.map_append, h.keys, List.map_append]
    rfl
  · exact nd_snoc h.nd hp
  · by_cases e : q = p
    · subst e; simp
    · rw [if_neg e, ← h.has q]
      simp [e]
  · rw [valV_put]
    by_cases e : q = p
    · subst e
      rw [if_pos rfl, if_pos rfl]
      exact hv
    · rw [if_neg (fun z => e (posK_inj z)), if_neg e]
      exact h.at_ q
theorem Tells.congr {G : Hp} {kvs : List (List Key × V)} {ps : List Plc} {k k' : Plc → Val} (h : Tells G kvs ps k) (e : ∀ p, k p = k' p) : Tells G kvs ps k' := by
  have : k = k' := funext e
  subst this
  exact h
/-- the dict holds for each of ps the data d -/
structure TellsD (G : Hp) (kvs : List (List Key × V)) (ps : List Plc) (d : Plc → PyData) : Prop where
  keys : kvs.map (·.1) = ps.map posK
  nd : ps.Nodup
  at_ : ∀ p ∈ ps, ∃ v, valV kvs (posK p) = some v ∧ At G v (d p)
theorem TellsD.mono {G G' : Hp} {kvs : List (List Key × V)} {ps : List Plc} {d : Plc → PyData} (h : TellsD G kvs ps d) (s : Same G G') : TellsD G' kvs ps d :=
  ⟨h.keys, h.nd, fun p hp => let ⟨v, e, a⟩ := h.at_ p hp; ⟨v, e, a.mono s⟩⟩
theorem TellsD.len {G : Hp} {kvs : List (List Key × V)} {ps : List Plc} {d : Plc → PyData} (h : TellsD G kvs ps d) : kvs.length = ps.length := by
  rw [← List.length_map (f := (·.1)), h.keys, List.length_map]
theorem TellsD.put {G : Hp} {kvs : List (List Key × V)} {ps : List Plc} {d : Plc → PyData} (h : TellsD G kvs ps d) {p : Plc} {v : V} (hp : p ∉ ps) (hv : At G v (d p)) : TellsD G (putK kvs (posK p) v) (ps ++ [p]) d := by
  have hno : valV kvs (posK p) = none := by
    cases e : valV kvs (posK p) with
    | none => rfl
    | some u =>
      have hm := valV_in e
      rw [h.keys] at hm
      obtain ⟨q, hq, eq⟩ := List.mem_map.mp hm
      rw [posK_inj eq] at hq
      exact absurd hq hp
  refine ⟨?_, nd_snoc h.nd hp, fun q hq => ?_⟩
  · rw [putK_new v hno, List.map_append, h.keys, List.map_append]
    rfl
  · rw [valV_put]
    by_cases e : q = p
    · subst e
      exact ⟨v, by rw [if_pos rfl], hv⟩
    · rw [if_neg (fun z => e (posK_inj z))]
      rcases List.mem_append.mp hq with z | z
      · exact h.at_ q z
      · simp at z
        exact absurd z e
/-! ### rounds upon the board's positions -/
end Fx

set_option Elab.async false
set_option linter.all false
set_option maxRecDepth 100000
namespace Fx
open PySem PySem.Spec PyProof.Rows L2
theorem few_pos {B : Brd} (g : Good B) {ps : List Plc} (nd : ps.Nodup) (sub : ∀ p ∈ ps, p ∈ allPos B.n) : ps.length ≤ 98 := by
  have hsub : ps.length ≤ (allPos B.n).length := by
    generalize allPos B.n = qs at sub
    induction ps generalizing qs with
    | nil => exact Nat.zero_le _
    | cons p r ih =>
      obtain ⟨n1, n2⟩ := List.nodup_cons.mp nd
      have hp := sub p List.mem_cons_self
      have := ih n2 (qs.erase p) fun q hq => by
        refine (List.mem_erase_of_ne ?_).mpr (sub q (List.mem_cons_of_mem _ hq))
        rintro rfl
        exact n1 hq
      rw [List.length_erase_of_mem hp] at this
      have := List.length_pos_of_mem hp
      rw [List.length_cons]
      omega
  rw [allPos_len] at hsub
  have h7 := g.few
  have : 2 * B.n * B.n ≤ 2 * 7 * 7 := Nat.mul_le_mul (Nat.mul_le_mul_left _ h7) h7
  omega
theorem tells_len {G : Hp} {B : Brd} {kvs : List (List Key × V)} {ps : List Plc} {k : Plc → Val} (h : Tells G kvs ps k) (hk : ∀ p, (k p).isSome = true → p ∈ allPos B.n) (g : Good B) : kvs.length < sizeLine := by
  rw [h.len]
  have := few_pos g h.nd fun p hp => hk p ((h.has p).mp hp)
  exact small1000 (by omega)
theorem take_mem {α : Type} {l : List α} {i : Nat} {x : α} (h : l[i]? = some x) (q : α) : q ∈ l.take (i + 1) ↔ q = x ∨ q ∈ l.take i := by
  rw [List.take_add_one, h]
  simp [or_comm]
theorem take_new {α : Type} {l : List α} (hn : l.Nodup) {i : Nat} {x : α} (h : l[i]? = some x) : x ∉ l.take i := by
  intro z
  obtain ⟨hi, e⟩ := List.getElem?_eq_some_iff.mp h
  obtain ⟨j, hj, ej⟩ := List.mem_iff_getElem.mp z
  rw [List.length_take] at hj
  rw [List.getElem_take] at ej
  exact List.pairwise_iff_getElem.mp hn j i (by omega) hi (by omega) (ej.trans e.symm)
end Fx

set_option Elab.async false
set_option linter.all false
set_option maxRecDepth 100000
namespace Fx
open PySem PySem.Spec PyProof.Rows L2
/-! ### the least of several -/
def leastI : List Int → Option Int
  | [] => none
  | a :: l => match leastI l with
    | none => some a
    | some b => some (if a ≤ b then a else b)
theorem leastI_some : ∀ {l : List Int}, l ≠ [] → ∃ m, leastI l = some m ∧ m ∈ l ∧ ∀ a ∈ l, m ≤ a
  | [], h => absurd rfl h
  | a :: l, _ => by
    by_cases hl : l = []
    · subst hl
      exact ⟨a, rfl, List.mem_cons_self, fun b hb => by simp at hb; omega⟩
    · obtain ⟨m, e, hm, hle⟩ := leastI_some hl
      refine ⟨if a ≤ m then a else m, by rw [leastI, e], ?_, fun b hb => ?_⟩
      · split
        · exact List.mem_cons_self
        · exact List.mem_cons_of_mem _ hm
      · rcases List.mem_cons.mp hb with rfl | hb
        · split <;> omega
        · have := hle b hb
          split <;> omega
/-! ### the move told -/
def prevV (v : Val) : Val := v.map fun w => (w.1, w.2 - 1)
def fitB (B : Brd) (p : Plc) : List Int := (waysB B p).filter fun y => decide (verd B (nxt p y) = prevV (verd B p))
def moveB (B : Brd) (p : Plc) : Option Int := if (winAt B p).isSome = true then none else leastI (fitB B p)
theorem mem_fit {B : Brd} {p : Plc} {y : Int} : y ∈ fitB B p ↔ y ∈ waysB B p ∧ verd B (nxt p y) = prevV (verd B p) := by
  unfold fitB
  rw [List.mem_filter, decide_eq_true_eq]
theorem fit_of {B : Brd} {p q : Plc} (hq : q ∈ (gameOf B).mv p) (h : verd B q = prevV (verd B p)) : fitB B p ≠ [] := by
  obtain ⟨y, hy, rfl⟩ := List.mem_map.mp hq
  exact List.ne_nil_of_mem (mem_fit.mpr ⟨hy, h⟩)
theorem fit_ne {B : Brd} (g : Good B) {p : Plc} (hp : p ∈ allPos B.n) (h : winAt B p = none) : fitB B p ≠ [] := by
  cases e : verd B p with
  | none =>
    obtain ⟨_, _, q, hq, eq⟩ := fin_open (closed g) hp e
    exact fit_of hq (by rw [e]; exact eq)
  | some w =>
    obtain ⟨s, n⟩ := w
    rcases turn_or p.t s with z | z
    · subst z
      obtain ⟨m, rfl, hw⟩ := fin_mover (closed g) hp h e
      obtain ⟨q, hq, eq⟩ := hw.has
      exact fit_of hq (by rw [e]; exact eq)
    · subst z
      obtain ⟨m, rfl, hl⟩ := fin_other (closed g) hp h e
      obtain ⟨q, hq, eq⟩ := hl.has
      exact fit_of hq (by rw [e]; exact eq)
theorem move_some {B : Brd} (g : Good B) {p : Plc} (hp : p ∈ allPos B.n) (h : winAt B p = none) : ∃ y, moveB B p = some y ∧ y ∈ waysB B p ∧ verd B (nxt p y) = prevV (verd B p) ∧ ∀ z ∈ fitB B p, y ≤ z := by
  obtain ⟨y, e, hm, hle⟩ := leastI_some (fit_ne g hp h)
  obtain ⟨h1, h2⟩ := mem_fit.mp hm
  refine ⟨y, ?_, h1, h2, hle⟩
  unfold moveB
  rw [h, if_neg (by simp), e]
theorem move_none {B : Brd} {p : Plc} {s : Bool} (h : winAt B p = some s) : moveB B p = none := by
  unfold moveB
  rw [h]
  rfl
theorem verd_win {B : Brd} {p : Plc} {s : Bool} (h : winAt B p = some s) : verd B p = some (s, 0) := fin_win h
theorem verd_pos {B : Brd} {p : Plc} {s : Bool} {n : Nat} (h : winAt B p = none) (hv : verd B p = some (s, n)) : 1 ≤ n := fin_zero h hv (goes B)
/-! ### entries as data -/
def whoS : Val → Str
  | some w => sd w.1
  | none => "open"
def cntD : Val → PyData
  | some w => .int (w.2 : Int)
  | none => .none
def cntV : Val → V
  | some w => .int (w.2 : Int)
  | none => .non
def mvD : Option Int → PyData
  | some y => .int y
  | none => .none
def mvV : Option Int → V
  | some y => .int y
  | none => .non
def entG (p : Plc) (v : Val) (m : Option Int) : PyData := .tuple [posD p, .str (whoS v), cntD v, mvD m]
def entD (B : Brd) (p : Plc) : PyData := entG p (verd B p) (moveB B p)
theorem who_can (v : Val) : PyData.canLay0 (.str (whoS v)) = true := by
  cases v with
  | none => exact open_can
  | some w => exact sd_can w.1
theorem cnt_at {H : Hp} (v : Val) : At H (cntV v) (cntD v) := by
  cases v with
  | none => exact .non
  | some w => exact .int _
theorem mv_at {H : Hp} (m : Option Int) : At H (mvV m) (mvD m) := by
  cases m with
  | none => exact .non
  | some w => exact .int _
theorem cnt_of {H : Hp} {x : V} {v : Val} (h : At H x (cntD v)) : x = cntV v := by
  cases v with
  | none => cases h; rfl
  | some w => cases h; rfl
theorem mv_of {H : Hp} {x : V} {v : Option Int} (h : At H x (mvD v)) : x = mvV v := by
  cases v with
  | none => cases h; rfl
  | some w => cases h; rfl
theorem At.ent {H : Hp} {x : V} {p : Plc} {v : Val} {m : Option Int} (h : At H x (entG p v m)) : ∃ a b, x = .ref a ∧ H a = some (.tup [.ref b, .str (whoS v), cntV v, mvV m]) ∧ H b = some (.tup (posV p)) := by
  cases h with
  | tup e t =>
    cases t with
    | cons a t =>
      cases t with
      | cons b t =>
        cases t with
        | cons c t =>
          cases t with
          | cons d t =>
            cases t
            obtain ⟨q, rfl, hq⟩ := a.pos
            cases b
            have := cnt_of c
            subst this
            have := mv_of d
            subst this
            exact ⟨_, q, rfl, e, hq⟩
theorem ent_at {H : Hp} {a b : Addr} {p : Plc} {v : Val} {m : Option Int} (h : H a = some (.tup [.ref b, .str (whoS v), cntV v, mvV m])) (hb : H b = some (.tup (posV p))) : At H (.ref a) (entG p v m) :=
  .tup h (.cons (pos_at hb) (.cons (.str (who_can _)) (.cons (cnt_at _) (.cons (mv_at _) .nil))))
theorem cnt_non (v : Val) : decide (cntV v = .non) = v.isNone := by cases v <;> rfl
theorem mv_non (v : Option Int) : decide (mvV v = .non) = v.isNone := by cases v <;> rfl
theorem any_str (ns : List Str) (z : Str) : (ns.map PyData.str).any (fun e => PyData.eqv e (.str z)) = decide (z ∈ ns) := by
  induction ns with
  | nil => simp
  | cons a r ih =>
    rw [List.map_cons, List.any_cons, ih]
    simp only [PyData.eqv]
    by_cases h : a = z
    · subst h; simp
    · have h' : ¬ z = a := fun e => h e.symm
      simp [h, h']
theorem seq_two {a b : TS} {D : Ends} {σ : L2.St} {H : Hp} (M : L2.St → Hp → Prop) (h2 : ∀ σ H, M σ H → b D σ H) (h1 : (∀ σ H, M σ H → b D σ H) → a { D with nx := b D } σ H) : tSeq a b D σ H := h1 h2
theorem atAll_strs {H : Hp} : ∀ {ns : List Str}, (∀ z ∈ ns, PyData.canLay0 (.str z) = true) → AtAll H (ns.map V.str) (ns.map PyData.str)
  | [], _ => .nil
  | n :: r, h => .cons (.str (h n List.mem_cons_self)) (atAll_strs fun z hz => h z (List.mem_cons_of_mem _ hz))
end Fx

set_option Elab.async false
set_option linter.all false
set_option maxRecDepth 100000
namespace Fx
open PySem PySem.Spec PyProof.Rows L2
/-! ### a dict by its raw object: iter, next, truth -/
def RawD (h : Heap) (d : Addr) (es : Array DictEntry) (ep : Nat) : Prop := ∃ o, h.get? d = some o ∧ o.ExactDict ∧ o.data = .dict es ep
section
variable {prog : Program} {w : World} {A : Around} {E : Value → Shared → Prop} {s : Shared} {d it : Addr} {es : Array DictEntry} {ep i : Nat}
theorem RawD.isDict (D : RawD s.heap d es ep) : s.TypeIs (.ref d) "dict" := by
  obtain ⟨ob, e1, e2, _⟩ := D
  exact ⟨ob, e1, e2.1⟩
theorem raw_iter {Q : Value → Shared → Prop} (big : (d == sysModules) = false) (D : RawD s.heap d es ep)
    (q : Q (.ref s.heap.objs.size) { s with heap := s.heap.push { cls := .type "dict_keyiterator", data := .fields #[.ref d, .int 0 0, .int es.size 0, .int ep 0] } }) :
    wpAny (model prog w) A (pyIter (.ref d)) Q E s := by
  obtain ⟨ob, e1, e2, e3⟩ := id D
  have ty := D.isDict
  refine wpAny_pyIter_slot ty PySem.F.slot_dict_iter (wpAny_call_entry PySem.F.slot_dict_iter ty PySem.F.entry_dict_iter ?_ (PySem.F.args_dict_iter_1 _))
  unfold Builtin.«dict.__iter__»; refine wpAny_bind ?_
  unfold Builtin.Dict.dictSlotNone; refine wpAny_bind (wpAny_notOrdered_dict ty ?_)
  show wpAny _ _ (pure (Value.ref d)) _ _ s; refine wpAny_pure ?_
  show wpAny _ _ (Builtin.Dict.showsAll d >>= _) _ _ s; unfold Builtin.Dict.showsAll
  rw [if_neg (by rw [big]; exact Bool.false_ne_true)]; refine wpAny_bind (wpAny_pure ?_)
  refine wpAny_bind (wpAny_dictEntries e1 e3 ?_); refine wpAny_bind (wpAny_dictEpoch e1 e3 ?_)
  refine wpAny_bind (wpAny_newObj_type (wpAny_pure ⟨_, rfl, "dict_keyiterator", _, ⟨_, Heap.get?_push_size _ rfl, rfl⟩, PySem.F.slot_dict_keyiterator_next.lookup, ?_⟩)); simpa [rawInt] using q
theorem raw_item {Q : Option Value → Shared → Prop} {e : DictEntry} (T : s.heap.IsKeyIter it d i es.size ep) (D : RawD s.heap d es ep) (hx : es[i]? = some e)
    (q : ∀ h', h'.IsKeyIter it d (i + 1) es.size ep → Heap.SameBut it s.heap h' → Q (some e.key) { s with heap := h' }) : wpAny (model prog w) A (pyNext (.ref it)) Q E s := by
  obtain ⟨oi, i1, i2, i3⟩ := id T
  obtain ⟨ob, e1, e2, e3⟩ := id D
  have ty := T.typeIs
  unfold pyNext; refine wpAny_bind (wpAny_attempt (wpAny_callSpecial?_slot (name := Str.ofString "__next__") ty PySem.F.slot_dict_keyiterator_next (wpAny_call_entry PySem.F.slot_dict_keyiterator_next ty PySem.F.entry_dict_keyiterator_next ?_ (PySem.F.args_dict_keyiterator_next_1 _))))
  refine wpAny_bind (wpAny_pure ?_); refine wpAny_bind ?_; refine wpAny_bind ?_
  first | refine wpAny_bind (wpAny_typeNameOfWhole_keyiter ty (wpAny_pure ?_)) | refine wpAny_bind (wpAny_typeNameOf_keyiter ty (wpAny_pure ?_))
  refine wpAny_bind (wpAny_fieldsOf i1 i3 ?_)
  have own : Builtin.Dict_items.ownsTuple "dict_keyiterator" = false := by decide
  simp only [own, Bool.false_eq_true, if_false]; show wpAny _ _ (if (Value.ref d == Value.none) = true then _ else _) _ _ s
  rw [if_neg (show ¬ ((Value.ref d == Value.none) = true) from Bool.false_ne_true)]; refine wpAny_bind (wpAny_pure ?_)
  refine wpAny_bind (wpAny_dictEntries e1 e3 ?_); rw [if_neg (by simp)]
  refine wpAny_bind (wpAny_pure ?_); refine wpAny_bind (wpAny_dictEpoch e1 e3 ?_)
  rw [if_neg (by simp)]; refine wpAny_pure ?_
  simp only [show ¬ ((i : Int) < 0) from by omega, if_false, Int.toNat_natCast, hx]; refine wpAny_bind ?_
  first | refine wpAny_bind (wpAny_typeNameOfWhole_keyiter ty (wpAny_pure ?_)) | refine wpAny_bind (wpAny_typeNameOf_keyiter ty (wpAny_pure ?_))
  refine wpAny_bind (wpAny_isOneOf_keyiter ty ?_); show wpAny _ _ (setField (.ref it) 1 (rawInt ((i : Int) + 1)) >>= _) _ _ s
  refine wpAny_bind (wpAny_setField i1 i3 (by simp) ?_)
  have T2 : (s.heap.update it (Obj.mapFields (·.setIfInBounds 1 (rawInt ((i : Int) + 1))))).IsKeyIter it d (i + 1) es.size ep :=
    ⟨_, Heap.get?_update_self _ i1 (Obj.isFreed_of_fields (Obj.data_mapFields i3 _)), (Obj.cls_mapFields ..).trans i2, by rw [Obj.data_mapFields i3]; simp [rawInt]⟩
  refine wpAny_bind (wpAny_holding ?_); refine wpAny_bind (wpAny_isOneOf_keyiter (s := { s with heap := s.heap.update it (Obj.mapFields (·.setIfInBounds 1 (rawInt ((i : Int) + 1)))) }) T2.typeIs ?_)
  show wpAny _ _ (pure e.key) _ _ _; exact wpAny_pure (wpAny_pure ⟨_, rfl, wpAny_pure (q _ T2 (Heap.SameBut.update ..))⟩)
theorem raw_end {Q : Option Value → Shared → Prop} (hh : A.handled = none) (T : s.heap.IsKeyIter it d i es.size ep) (D : RawD s.heap d es ep) (hx : es.size ≤ i)
    (q : ∀ h', Heap.ExtBut it s.heap h' → Q none { s with heap := h' }) : wpAny (model prog w) A (pyNext (.ref it)) Q E s := by
  obtain ⟨oi, i1, i2, i3⟩ := id T
  obtain ⟨ob, e1, e2, e3⟩ := id D
  have ty := T.typeIs
  unfold pyNext; refine wpAny_bind (wpAny_attempt (wpAny_callSpecial?_slot (name := Str.ofString "__next__") ty PySem.F.slot_dict_keyiterator_next (wpAny_call_entry PySem.F.slot_dict_keyiterator_next ty PySem.F.entry_dict_keyiterator_next ?_ (PySem.F.args_dict_keyiterator_next_1 _))))
  refine wpAny_bind (wpAny_pure ?_); refine wpAny_bind ?_; refine wpAny_bind ?_
  first | refine wpAny_bind (wpAny_typeNameOfWhole_keyiter ty (wpAny_pure ?_)) | refine wpAny_bind (wpAny_typeNameOf_keyiter ty (wpAny_pure ?_))
  refine wpAny_bind (wpAny_fieldsOf i1 i3 ?_)
  have own : Builtin.Dict_items.ownsTuple "dict_keyiterator" = false := by decide
  simp only [own, Bool.false_eq_true, if_false]; show wpAny _ _ (if (Value.ref d == Value.none) = true then _ else _) _ _ s
  rw [if_neg (show ¬ ((Value.ref d == Value.none) = true) from Bool.false_ne_true)]; refine wpAny_bind (wpAny_pure ?_)
  refine wpAny_bind (wpAny_dictEntries e1 e3 ?_); rw [if_neg (by simp)]
  refine wpAny_bind (wpAny_pure ?_); refine wpAny_bind (wpAny_dictEpoch e1 e3 ?_)
  rw [if_neg (by simp)]; refine wpAny_pure ?_
  simp only [show ¬ ((i : Int) < 0) from by omega, if_false, Int.toNat_natCast, Array.getElem?_eq_none hx]; refine wpAny_bind ?_
  first | refine wpAny_bind (wpAny_typeNameOfWhole_keyiter ty (wpAny_pure ?_)) | refine wpAny_bind (wpAny_typeNameOf_keyiter ty (wpAny_pure ?_))
  show wpAny _ _ (setField (.ref it) 0 .none >>= _) _ _ s; refine wpAny_bind (wpAny_setField i1 i3 (by simp) ?_)
  show wpAny _ _ (newExc (.type "StopIteration") [] >>= _) _ _ _; refine wpAny_bind ?_
  simp only [newExc, newTuple]; refine wpAny_bind (wpAny_newObj_type ?_ (by size_fits))
  refine wpAny_bind (m := firstArgMember _ _) (wpAny_of_eq (a := Value.none) (by first | rfl | (simp only [firstArgMember]; rfl)) ?_); refine wpAny_newObj_type ?_ (by size_fits)
  simp only [raiseNew]; refine wpAny_bind (wpAny_handled ?_)
  rw [show A.in1.handled = none from hh]; refine wpAny_bind (wpAny_pure (wpAny_throw ?_))
  refine wpAny_bind (wpAny_isInstance (T := "StopIteration") (b := true) ⟨_, Heap.get?_push_size _ rfl, rfl⟩ isSubtype_stop ?_); exact wpAny_pure (q _ (((Heap.SameBut.update ..).extBut.push _).push _))
theorem raw_len {Q : Value → Shared → Prop} (big : (d == sysModules) = false) (D : RawD s.heap d es ep) (fit : (es.size : Int) < 2 ^ 63)
    (q : Q (.int es.size (s.toks + 1)) { s with toks := s.toks + 1 + 1 }) : wpAny (model prog w) A (Builtin.«len» ⟨[.ref d], []⟩) (fun fin s' => ∃ r, fin = .done (.ret r) ∧ Q r s') E s := by
  obtain ⟨ob, e1, e2, e3⟩ := id D
  have ty := D.isDict
  have me : MeetsIn prog w (Builtin.«dict.__len__» ⟨[.ref d], []⟩) (fun _ R s => RawD s.heap d es ep ∧ R (.ok (.ret (.int es.size s.toks))) { s with toks := s.toks + 1 }) := .of_wp fun A R s ⟨D', h⟩ => by
    obtain ⟨ob', f1, f2, f3⟩ := D'
    show wpAny _ _ (dictSize d >>= _) _ _ s; unfold dictSize
    refine wpAny_bind (wpAny_bind (wpAny_dictEntries f1 f3 (wpAny_pure ?_))); show wpAny _ _ (Builtin.Dict.pendingCount d >>= _) _ _ s
    refine wpAny_bind (wpAny_pendingCount_other big ?_); refine wpAny_ret_mkInt ?_
    rw [Nat.add_zero]; exact h
  unfold Builtin.«len»; refine wpAny_bind (m := oneArg "len" _) (wpAny_pure ?_)
  refine wpAny_bind (m := callSpecial? (.ref d) (Str.ofString "__len__")) (wpAny_callSpecial?_slot (name := Str.ofString "__len__") ty PySem.F.slot_dict_len (call_meetsIn PySem.F.slot_dict_len ty PySem.F.entry_dict_len (PySem.F.args_dict_len_1 _) me ⟨D, ?_⟩))
  show wpAny _ _ _ _ _ { s with toks := s.toks + 1 }; refine wpAny_bind (wpAny_holding (wpAny_pure ?_)); refine wpAny_bind (wpAny_letGo ?_)
  show wpAny _ _ (if ((es.size : Nat) : Int) < 0 then _ else _) _ _ _; rw [if_neg (by omega)]
  show wpAny _ _ (if ((es.size : Nat) : Int) ≥ 2 ^ 63 then _ else _) _ _ _; rw [if_neg (by omega)]
  exact wpAny_bind (wpAny_mkInt (wpAny_pure ⟨_, rfl, q⟩))
theorem raw_truth {Q : Bool → Shared → Prop} (big : (d == sysModules) = false) (D : RawD s.heap d es ep) (fit : (es.size : Int) < 2 ^ 63)
    (q : Q (decide (es.size ≠ 0)) { s with toks := s.toks + 1 + 1 }) : wpAny (model prog w) A (truthy (.ref d)) Q E s := by
  have ne : ((es.size : Int) != 0) = decide (es.size ≠ 0) := by
    by_cases z : es.size = 0
    · rw [z]; rfl
    · rw [decide_eq_true z]; exact bne_iff_ne.mpr (by omega)
  have ty := D.isDict
  have key : wpAny (model prog w) A (runValue (.builtin "len" ⟨[.ref d], []⟩)) (fun r s' => r = .int es.size (s.toks + 1) ∧ Q (decide (es.size ≠ 0)) s') E s := by
    refine wpAny_runValue (codeAny_builtin entry_len ?_); rw [Around.under_plainId plain_len _]
    exact wpAny_mono (raw_len (Q := fun r s' => r = .int es.size (s.toks + 1) ∧ Q (decide (es.size ≠ 0)) s') big D fit ⟨rfl, q⟩) (fun fin s' h' => by obtain ⟨r, rfl, hq⟩ := h'; exact hq) fun _ _ e => e
  unfold truthy; first | refine wpAny_bind (wpAny_callSpecial?_none (name := Str.ofString "__bool__") ty noBool_dict ?_) | refine wpAny_bind (wpAny_pure (wpAny_bind (wpAny_callSpecial?_none (name := Str.ofString "__bool__") ty noBool_dict ?_)))
  first | refine wpAny_bind (wpAny_specialOf (name := Str.ofString "__len__") ty PySem.F.slot_dict_len.lookup ?_) | refine wpAny_bind (wpAny_pure (wpAny_bind (wpAny_specialOf (name := Str.ofString "__len__") ty PySem.F.slot_dict_len.lookup ?_)))
  first | exact wpAny_bind (wpAny_mono key (fun r s' h' => by obtain ⟨rfl, hq⟩ := h'; exact wpAny_pure (ne ▸ hq)) fun _ _ e => e) | exact wpAny_bind (wpAny_pure (wpAny_bind (wpAny_mono key (fun r s' h' => by obtain ⟨rfl, hq⟩ := h'; exact wpAny_pure (ne ▸ hq)) fun _ _ e => e)))
end
/-! ### dicts by tuples, frozen: walked, asked, read -/
/-- what is read as u may be read as u in a greater heap -/
theorem rd_mono {H H' : Hp} {a : Addr} {u : HO} (s : Same H H') (r : Rd H a u) : Rd H' a u := r.imp (s _ _) fun ⟨o, e⟩ => ⟨o, s _ _ e⟩
theorem rd_frz {H : Hp} {a : Addr} {u : HO} {o : Obj} (e : H a = some (.frz o u)) : Rd H a u := .inr ⟨o, e⟩
theorem get_t {H : Hp} {a b : Addr} {kvs : List (List Key × V)} {k : List Key} (e : Rd H a (.dT kvs)) (eb : H b = some (.tup (k.map kV))) : DGet H a (.ref b) (valV kvs k) := .inr ⟨kvs, k, b, e, rfl, eb, rfl⟩
theorem isD_t {H : Hp} {a : Addr} {kvs : List (List Key × V)} (e : Rd H a (.dT kvs)) : IsD H a := .inr ⟨kvs, e⟩
section
variable {X : Cx}
theorem inv_frz {pins : List (Addr × Obj)} {σ : L2.St} {H : Hp} {s : Shared} {a : Addr} {kvs : List (List Key × V)} (I : Inv X pins σ H s) (e : H a = some (.dT kvs)) : ∃ o, Inv X pins σ (upd H a (.frz o (.dT kvs))) s := by
  obtain ⟨z, y, xs, r, o, es, ep, h1, h2⟩ := (show ObjOk X.prog X.w H s.heap a (.dT kvs) from I.hok a _ e)
  refine ⟨o, I.write (t' := s.toks) (x := a) (e := a) (by rw [e]; exact True.intro) (.inl rfl) (fun b u _ q => q) ⟨o, h1⟩ ⟨h1, z, y, xs, Paired.mapP r fun p q w => ⟨w.1, ?_, w.2.2⟩, o, es, ep, h1, h2⟩⟩
  rw [upd_ne (ne_of w.2.1 e (fun z => nomatch z))]
  exact w.2.1
/-- an expression whose dict is written no more from here on -/
def tFrz (t : TE) : TE := fun σ H Q => t σ H fun x H1 => ∃ a kvs, x = .ref a ∧ H1 a = some (.dT kvs) ∧ ∀ o, Q x (upd H1 a (.frz o (.dT kvs)))
theorem pe_frz {e : Expr} {t : TE} (h : PE X e t) : PE X e (tFrz t) := by
  intro pins s σ H Q I hw
  refine thn (h pins s σ H _ I hw) fun v s1 ⟨x, H1, I1, r1, a, kvs, ex, ea, q⟩ => ?_
  obtain ⟨o, I2⟩ := inv_frz I1 ea
  exact ⟨x, _, I2, r1, q o⟩
theorem raw_of {P : Program} {w : World} {H : Hp} {h : Heap} {a : Addr} {kvs : List (List Key × V)} (x : ObjOk P w H h a (.dT kvs)) : (a == sysModules) = false ∧ kvs.length ≤ sizeLine ∧ ∃ es ep, RawD h a es ep ∧ es.size = kvs.length ∧
    ∀ (i : Nat) (k : List Key) (v : V), kvs[i]? = some (k, v) → ∃ (e : DictEntry) (b : Addr), es[i]? = some e ∧ e.key = .ref b ∧ H b = some (.tup (k.map kV)) ∧ RelV v e.val := by
  obtain ⟨z, y, xs, r, o, es, ep, h1, h2, h3, h4, h5⟩ := x
  refine ⟨y, z, es, ep, ⟨o, h1, h2, h3⟩, ?_, fun i k v hi => ?_⟩
  · rw [← Array.length_toList, h4, List.length_map]
    exact (Paired.length r).symm
  · have all : ∀ {l : List (List Key × V)} {m : List (List Key × Addr × Value)}, Paired (fun (p : List Key × V) (q : List Key × Addr × Value) => p.1 = q.1 ∧ H q.2.1 = some (.tup (p.1.map kV)) ∧ RelV p.2 q.2.2) l m →
        ∀ (i : Nat) (k : List Key) (v : V), l[i]? = some (k, v) → ∃ (b : Addr) (u : Value), m[i]? = some (k, b, u) ∧ H b = some (.tup (k.map kV)) ∧ RelV v u := by
      intro l m q
      induction q with
      | nil => intro i k v hx; simp at hx
      | @cons p q ps qs hq t ih =>
        intro i k v hx
        cases i with
        | zero =>
          simp only [List.getElem?_cons_zero, Option.some.injEq] at hx
          obtain ⟨q1, q2, q3⟩ := q
          obtain ⟨z1, z2, z3⟩ := hq
          subst hx
          simp only at z1 z2 z3
          subst z1
          exact ⟨q2, q3, rfl, z2, z3⟩
        | succ j =>
          simp only [List.getElem?_cons_succ] at hx ⊢
          exact ih j k v hx
    obtain ⟨b, u, e1, e2, e3⟩ := all r i k v hi
    refine ⟨entryOfKey (tupleKind (mixKind P w)) (k, b, u), b, ?_, rfl, e2, e3⟩
    rw [← Array.getElem?_toList, h4, List.getElem?_map, e1]
    rfl
/-- the frozen dict at a, walked by its keys -/
def Itd (a : Addr) (o : Obj) (kvs : List (List Key × V)) : It :=
  ⟨fun i H => H a = some (.frz o (.dT kvs)) ∧ i < kvs.length, fun i H x H' => H' = H ∧ ∃ k v b, kvs[i]? = some (k, v) ∧ x = .ref b ∧ H b = some (.tup (k.map kV)), fun i H => H a = some (.frz o (.dT kvs)) ∧ kvs.length ≤ i⟩
theorem frz_raw {P : Program} {w : World} {H : Hp} {h : Heap} {a : Addr} {kvs : List (List Key × V)} {o : Obj} {es : Array DictEntry} {ep : Nat} (x : ObjOk P w H h a (.frz o (.dT kvs))) (hd : o.data = .dict es ep) : RawD h a es ep ∧ es.size = kvs.length ∧
    ∀ (i : Nat) (k : List Key) (v : V), kvs[i]? = some (k, v) → ∃ (e : DictEntry) (b : Addr), es[i]? = some e ∧ e.key = .ref b ∧ H b = some (.tup (k.map kV)) ∧ RelV v e.val := by
  obtain ⟨h1, x⟩ := x
  obtain ⟨_, _, es', ep', D, sz, all⟩ := raw_of x
  obtain ⟨ob, e1, e2, e3⟩ := id D
  rw [h1] at e1
  cases e1
  rw [hd] at e3
  injection e3 with e4 e5
  subst e4 e5
  exact ⟨D, sz, all⟩
theorem turn_dict {P : Program} {w : World} {K : PySem.W.Frag} {tg : Expr} (a it : Addr) (o : Obj) (kvs : List (List Key × V)) (es : Array DictEntry) (ep : Nat) (hd : o.data = .dict es ep) (hn : es.size = kvs.length) :
    Turn P w K tg (Itd a o kvs) [it] it (fun i h => h.IsKeyIter it a i es.size ep) where
  mem := by simp
  obj := fun i h st b hb => by
    have e : b = it := by simpa using hb
    subst e
    obtain ⟨o, e, c, d⟩ := st
    exact ⟨o, e, fun v z => by rw [d] at z; cases z⟩
  keep := fun i h h' st k => st.at fun o e => k it (by simp) o e
  item := by
    intro X hP hw hK hc i pins s σ H E I hf st hg
    subst hP hw hK
    obtain ⟨ha, hi⟩ := hg
    obtain ⟨D, sz, all⟩ := frz_raw (I.hok a _ ha) hd
    obtain ⟨k, v⟩ : List Key × V := kvs[i]
    obtain ⟨⟨k, v⟩, hkv⟩ : ∃ p, kvs[i]? = some p := ⟨kvs[i], by simp [hi]⟩
    obtain ⟨e, b, he, ek, eb, _⟩ := all i k v hkv
    obtain ⟨f0, f1, f2, f3, f4, f5⟩ := hf it (by simp)
    refine raw_item st D he fun h' st' sb => ?_
    have I1 : Inv X pins σ H { s with heap := h' } := I.turned (t' := s.toks) (fun b o hb e => (sb.2 b hb).trans e) f0 f1 f3 f4 f5
    obtain ⟨o2, e2, c2, d2⟩ := id st'
    rw [ek]
    exact ⟨.ref b, rfl, go_of (s := { s with heap := h' }) e2 c2 d2 (by decide) ⟨.ref b, H, I1, rfl, ⟨rfl, k, v, b, hkv, rfl, eb⟩, st', fun b hb => (hf b hb).1⟩⟩
  done := by
    intro X hP hw hK hc i pins s σ H E I hf st hg
    subst hP hw hK
    obtain ⟨ha, hi⟩ := hg
    obtain ⟨D, sz, all⟩ := frz_raw (I.hok a _ ha) hd
    obtain ⟨f0, f1, f2, f3, f4, f5⟩ := hf it (by simp)
    exact raw_end (I.ok.hd hc) st D (by omega) fun h' eb => ⟨rfl, I.turned (t' := s.toks) (fun b o hb e => eb b o hb e) f0 f1 f3 f4 f5⟩
  self := fun _ _ _ _ _ st h => wpAny_pyIter_keyiter st h
def iDct (tl : TE) : TI := fun σ H R => tl σ H fun x H1 => ∃ a o kvs, x = .ref a ∧ H1 a = some (.frz o (.dT kvs)) ∧ R (Itd a o kvs) H1
theorem pi_dct {tg l : Expr} {tl : TE} (hl : PE X l tl) : PI X tg l (iDct tl) := by
  intro pins s σ H R I h
  refine thn (hl pins s σ H _ I h) fun v s1 ⟨x, H1, I1, r1, q1⟩ => ?_
  obtain ⟨a, o, kvs, e, ha, q⟩ := q1
  subst e
  cases r1
  obtain ⟨g1, x1⟩ := (show ObjOk X.prog X.w H1 s1.heap a (.frz o (.dT kvs)) from I1.hok a _ ha)
  obtain ⟨big, _, es, ep, D, sz, all⟩ := raw_of x1
  obtain ⟨ob, e1, e2, e3⟩ := id D
  rw [g1] at e1
  cases e1
  refine raw_iter big D ?_
  refine ⟨s1.heap.objs.size, [s1.heap.objs.size], _, _, H1, rfl, I1.kept (t' := s1.toks) fun b o e => Heap.get?_push_of_some _ e, turn_dict a _ o kvs es ep e3 sz, ⟨_, Heap.get?_push_size _ rfl, rfl, rfl⟩, fun b hb => ?_, q⟩
  have e : b = s1.heap.objs.size := by simpa using hb
  subst e
  exact I1.fpOk (Nat.le_refl _) (I1.hok.fresh (Nat.le_refl _))
theorem catT_K {K : PySem.W.Frag} (h : X.K = K) : OpR X (binaryOp .Add) (rCatT K) := by
  subst h
  exact op_catT
/-! ### truth of lists and of dicts by tuples -/
def tTrL (K : PySem.W.Frag) (t : TE) : TT := fun σ H Q => t σ H fun x H1 => ∃ a xs, x = .ref a ∧ SqL K H1 a xs ∧ Q (!xs.isEmpty) H1
theorem pt_list {K : PySem.W.Frag} (hK : X.K = K) {e : Expr} {t : TE} (h : PE X e t) (he : ∀ whole, isTrue e X.env whole = (do let v ← whole; standAt e.pos; holding [v] (truthy v)) := by intro _; rfl) : PT X e (tTrL K t) := by
  subst hK
  intro pins s σ H Q I hw
  refine isTrue_plain (thn (h pins s σ H _ I hw) fun v s1 ⟨x, H1, I1, r1, q1⟩ => ?_) (he _)
  obtain ⟨a, xs, rfl, ha, q⟩ := q1
  cases r1
  obtain ⟨its, rv, p, hz⟩ := I1.list ha
  have el := rv.length
  rw [sizeLine_eq] at hz
  refine wpAny_truthy_list p.isList (by simp; omega) ⟨H1, I1.tok _, ?_⟩
  have ee : its.toArray.isEmpty = xs.isEmpty := by
    cases rv with
    | nil => rfl
    | cons _ _ => rfl
  rw [ee]
  exact q
def tTrD (t : TE) : TT := fun σ H Q => t σ H fun x H1 => ∃ a kvs, x = .ref a ∧ Rd H1 a (.dT kvs) ∧ Q (decide (kvs.length ≠ 0)) H1
theorem pt_dct {e : Expr} {t : TE} (h : PE X e t) (he : ∀ whole, isTrue e X.env whole = (do let v ← whole; standAt e.pos; holding [v] (truthy v)) := by intro _; rfl) : PT X e (tTrD t) := by
  intro pins s σ H Q I hw
  refine isTrue_plain (thn (h pins s σ H _ I hw) fun v s1 ⟨x, H1, I1, r1, q1⟩ => ?_) (he _)
  obtain ⟨a, kvs, rfl, ha, q⟩ := q1
  cases r1
  obtain ⟨big, hz, es, ep, D, sz, all⟩ := raw_of (ha.ok I1.hok)
  rw [sizeLine_eq] at hz
  refine raw_truth big D (by omega) ⟨H1, I1.tok _, ?_⟩
  rw [sz]
  exact q
end
/-! ### loops and comprehensions over a frozen dict -/
theorem for_dct {a : Addr} {o : Obj} {kvs : List (List Key × V)} {g : TG} {tb : TS} {D : Ends} {σ : L2.St} {H : Hp} (Pv : Nat → L2.St → Hp → Prop) (h0 : Pv 0 σ H) (hl : ∀ i σ H, i ≤ kvs.length → Pv i σ H → H a = some (.frz o (.dT kvs)))
    (hs : ∀ i k v b σ H, kvs[i]? = some (k, v) → H b = some (.tup (k.map kV)) → Pv i σ H → g (.ref b) σ H fun σ2 H2 => tb { D with nx := Pv (i + 1), ct := Pv (i + 1), bk := D.nx } σ2 H2) (hd : ∀ σ H, Pv kvs.length σ H → D.nx σ H) :
    ∃ W : Nat → Nat → L2.St → Hp → Prop, (∃ m, W 0 m σ H) ∧ ∀ i m σ H, W i m σ H →
      ((Itd a o kvs).stop i H ∧ D.nx σ H) ∨ ((Itd a o kvs).go i H ∧ ∃ N : L2.St → Hp → Prop, (∀ σ' H', N σ' H' → ∃ m', m' < m ∧ W (i + 1) m' σ' H') ∧ ∀ x H', (Itd a o kvs).yld i H x H' → g x σ H' fun σ2 H2 => tb { D with nx := N, ct := N, bk := D.nx } σ2 H2) := by
  refine ⟨fun i m σ H => m = kvs.length - i ∧ i ≤ kvs.length ∧ Pv i σ H, ⟨kvs.length, by simp, Nat.zero_le _, h0⟩, ?_⟩
  rintro i m σ H ⟨rfl, hi, p⟩
  have q := hl i σ H hi p
  by_cases hlt : i < kvs.length
  · refine .inr ⟨⟨q, hlt⟩, Pv (i + 1), fun σ' H' p' => ⟨kvs.length - (i + 1), by omega, rfl, hlt, p'⟩, fun x H' y => ?_⟩
    obtain ⟨e, k, v, b, e1, e2, e3⟩ := y
    subst e e2
    exact hs i k v b σ _ e1 e3 p
  · have e : i = kvs.length := by omega
    subst e
    exact .inl ⟨⟨q, Nat.le_refl _⟩, hd σ H p⟩
theorem comp_dct {a D : Addr} {o : Obj} {kvs : List (List Key × V)} {g : TG} {tt : TT} {te : TE} {R : Hp → Prop} {τ0 : L2.St} {H : Hp} (Pv : Nat → L2.St → Hp → Prop) (h0 : Pv 0 τ0 H) (hl : ∀ i τ H, i ≤ kvs.length → Pv i τ H → H a = some (.frz o (.dT kvs)))
    (hs : ∀ i k v b τ H, kvs[i]? = some (k, v) → H b = some (.tup (k.map kV)) → Pv i τ H → g (.ref b) τ H fun τ2 H3 => tt τ2 H3 fun b H4 => if b = true then te τ2 H4 fun y H5 => ∃ ys, H5 D = some (.lst ys) ∧ ys.length < sizeLine ∧ Pv (i + 1) τ2 (upd H5 D (.lst (ys ++ [y]))) else Pv (i + 1) τ2 H4)
    (hd : ∀ τ H, Pv kvs.length τ H → R H) :
    ∃ W : Nat → Nat → L2.St → Hp → Prop, (∃ m, W 0 m τ0 H) ∧ ∀ i m τ H2, W i m τ H2 →
      ((Itd a o kvs).stop i H2 ∧ R H2) ∨ ((Itd a o kvs).go i H2 ∧ ∃ N : L2.St → Hp → Prop, (∀ τ' H', N τ' H' → ∃ m', m' < m ∧ W (i + 1) m' τ' H') ∧
        ∀ x H', (Itd a o kvs).yld i H2 x H' → g x τ H' fun τ2 H3 => tt τ2 H3 fun b H4 => if b = true then te τ2 H4 fun y H5 => ∃ ys, H5 D = some (.lst ys) ∧ ys.length < sizeLine ∧ N τ2 (upd H5 D (.lst (ys ++ [y]))) else N τ2 H4) := by
  refine ⟨fun i m τ H => m = kvs.length - i ∧ i ≤ kvs.length ∧ Pv i τ H, ⟨kvs.length, by simp, Nat.zero_le _, h0⟩, ?_⟩
  rintro i m τ H ⟨rfl, hi, p⟩
  have q := hl i τ H hi p
  by_cases hlt : i < kvs.length
  · refine .inr ⟨⟨q, hlt⟩, Pv (i + 1), fun σ' H' p' => ⟨kvs.length - (i + 1), by omega, rfl, hlt, p'⟩, fun x H' y => ?_⟩
    obtain ⟨e, k, v, b, e1, e2, e3⟩ := y
    subst e e2
    exact hs i k v b τ _ e1 e3 p
  · have e : i = kvs.length := by omega
    subst e
    exact .inl ⟨⟨q, Nat.le_refl _⟩, hd τ H p⟩
end Fx

set_option Elab.async false
set_option linter.all false
set_option maxRecDepth 100000
namespace Fx
open PySem PySem.Spec PyProof.Rows L2
/-! ### what dicts by positions tell -/
/-- the heap grows, and the stable part with it -/
structure ExtW (G H G' H' : Hp) : Prop where
  gg : Same G G'
  gh : Same G' H'
  hh : Same H H'
theorem non_vd {G : Hp} {w : Bool × Nat} (h : At G .non (vD w)) : False := by
  obtain ⟨b, eb, _⟩ := At.vd h
  cases eb
theorem tells_is {G : Hp} {kvs : List (List Key × V)} {ps : List Plc} {k : Plc → Val} (h : Tells G kvs ps k) (p : Plc) : (valV kvs (posK p)).isSome = (k p).isSome := by
  have a := h.at_ p
  cases ek : k p with
  | none =>
    cases e : valV kvs (posK p) with
    | none => rfl
    | some u =>
      have hm := valV_in e
      rw [h.keys] at hm
      obtain ⟨q, hq, eq⟩ := List.mem_map.mp hm
      rw [posK_inj eq] at hq
      have := (h.has p).mp hq
      rw [ek] at this
      cases this
  | some w =>
    rw [ek] at a
    cases e : valV kvs (posK p) with
    | none => rw [e] at a; exact (non_vd a).elim
    | some u => rfl
theorem tells_at {G : Hp} {kvs : List (List Key × V)} {ps : List Plc} {k : Plc → Val} (h : Tells G kvs ps k) {p : Plc} {w : Bool × Nat} (hk : k p = some w) : ∃ a, valV kvs (posK p) = some (.ref a) ∧ G a = some (.tup [.str (sd w.1), .int (w.2 : Int)]) := by
  have a := h.at_ p
  rw [hk] at a
  cases e : valV kvs (posK p) with
  | none => rw [e] at a; exact (non_vd a).elim
  | some u =>
    rw [e] at a
    obtain ⟨b, rfl, hb⟩ := At.vd (show At G u (vD w) from a)
    exact ⟨b, rfl, hb⟩
theorem tellsD_key {G : Hp} {kvs : List (List Key × V)} {ps : List Plc} {d : Plc → PyData} (h : TellsD G kvs ps d) {i : Nat} {k : List Key} {v : V} (hi : kvs[i]? = some (k, v)) : ∃ p, ps[i]? = some p ∧ k = posK p := by
  have e : (kvs.map (·.1))[i]? = some k := by rw [List.getElem?_map, hi]; rfl
  rw [h.keys, List.getElem?_map] at e
  cases ep : ps[i]? with
  | none => rw [ep] at e; cases e
  | some p =>
    rw [ep] at e
    exact ⟨p, rfl, (Option.some.inj e).symm⟩
theorem filter_take {α : Type} {l : List α} {f : α → Bool} {i : Nat} {x : α} (h : l[i]? = some x) : (l.take (i + 1)).filter f = (l.take i).filter f ++ (if f x = true then [x] else []) := by
  rw [List.take_add_one, h, List.filter_append]
  congr 1
  show ([x].filter f) = _
  rw [List.filter_cons, List.filter_nil]
theorem tells_nil {G : Hp} : Tells G [] [] (fun _ => none) := ⟨rfl, List.nodup_nil, fun p => by simp, fun p => by simp [valV_nil]; rfl⟩
theorem tellsD_nil {G : Hp} {d : Plc → PyData} : TellsD G [] [] d := ⟨rfl, List.nodup_nil, fun p hp => nomatch hp⟩
theorem few98 {B : Brd} (g : Good B) : (allPos B.n).length ≤ 98 := by
  rw [allPos_len]
  have h7 := g.few
  have : 2 * B.n * B.n ≤ 2 * 7 * 7 := Nat.mul_le_mul (Nat.mul_le_mul_left _ h7) h7
  omega
theorem tellsD_few {G : Hp} {B : Brd} {kvs : List (List Key × V)} {ps : List Plc} {d : Plc → PyData} (h : TellsD G kvs ps d) (g : Good B) (hk : ∀ p ∈ ps, p ∈ allPos B.n) : kvs.length < sizeLine := by
  rw [h.len]
  have := few_pos g h.nd hk
  exact small1000 (by omega)
/-! ### verdicts or None, as data -/
def dV : Val → PyData
  | some w => vD w
  | none => .none
theorem val_dV {G : Hp} {v : V} {x : Val} (h : ValAt G v x) : At G v (dV x) := by
  cases x with
  | none =>
    rw [show v = .non from h]
    exact .non
  | some w => exact h
theorem eqv_dV (a b : Val) : PyData.eqv (dV a) (dV b) = decide (a = b) := by
  cases a with
  | none => cases b <;> simp [dV, vD, PyData.eqv]
  | some u =>
    cases b with
    | none => simp [dV, vD, PyData.eqv]
    | some w =>
      obtain ⟨s, n⟩ := u
      obtain ⟨t, m⟩ := w
      simp only [dV, vD, PyData.eqv, PyData.eqvAll, Bool.and_true]
      by_cases h1 : s = t
      · by_cases h2 : n = m
        · subst h1 h2; simp
        · have : ¬ ((n : Int) = (m : Int)) := by omega
          simp [h1, h2, this]
      · have : (sd s == sd t) = false := by simpa using fun z => h1 (sd_inj z)
        simp [h1, this]
theorem dV_depth (x : Val) : (dV x).depth ≤ 60 := by cases x <;> simp [dV, vD, PyData.depth, PyData.depthAll]
/-- who, in how many moves, by which move -/
def vdD (B : Brd) (p : Plc) : PyData := .tuple [.str (whoS (verd B p)), cntD (verd B p), mvD (moveB B p)]
theorem vdD_of {B : Brd} {G : Hp} {x : V} {p : Plc} (h : At G x (vdD B p)) : ∃ a, x = .ref a ∧ G a = some (.tup [.str (whoS (verd B p)), cntV (verd B p), mvV (moveB B p)]) := by
  cases h with
  | tup e t =>
    cases t with
    | cons b t =>
      cases t with
      | cons c t =>
        cases t with
        | cons d t =>
          cases t
          cases b
          have := cnt_of c
          subst this
          have := mv_of d
          subst this
          exact ⟨_, rfl, e⟩
theorem vdD_at {B : Brd} {G : Hp} {a : Addr} {p : Plc} (h : G a = some (.tup [.str (whoS (verd B p)), cntV (verd B p), mvV (moveB B p)])) : At G (.ref a) (vdD B p) := .tup h (.cons (.str (who_can _)) (.cons (cnt_at _) (.cons (mv_at _) .nil)))
/-- the side that a round finds -/
def sdN (B : Brd) (r : Nat) (p : Plc) : Bool := ((Kn (gameOf B) (r + 1) p).map (·.1)).getD true
def behD (B : Brd) (p : Plc) : PyData := .list ((behS B p).map posD)
def newD (B : Brd) (r : Nat) (p : Plc) : PyData := .str (sd (sdN B r p))
theorem ways_61 {B : Brd} (g : Good B) (p : Plc) : (waysB B p).length ≤ 61 := Nat.le_trans (waysL_len _ _) g.len
theorem sides_take {k : Plc → Val} {qs : List Plc} {i : Nat} {q : Plc} (h : qs[i]? = some q) : sidesOf k (qs.take (i + 1)) = sidesOf k (qs.take i) ++ ((k q).map (·.1)).toList := by
  unfold sidesOf
  rw [List.take_add_one, h]
  show (qs.take i ++ [q]).filterMap _ = _
  rw [List.filterMap_append]
  congr 1
theorem mem_sd {l : List Bool} {t : Bool} : sd t ∈ l.map sd ↔ t ∈ l := by
  rw [List.mem_map]
  constructor
  · rintro ⟨s, hs, e⟩
    rw [← sd_inj e]
    exact hs
  · intro h
    exact ⟨t, h, rfl⟩
/-- the least of the fitting ways stands first -/
theorem move_head {B : Brd} (g : Good B) {p : Plc} (hp : p ∈ allPos B.n) (hw : winAt B p = none) : ∃ y r, (waysS B p).filter (fun y => decide (kF B (nxt p y) = prevV (verd B p))) = y :: r ∧ moveB B p = some y := by
  obtain ⟨m, em, hm, ev, hle⟩ := move_some g hp hw
  have kin : ∀ y ∈ waysB B p, kF B (nxt p y) = verd B (nxt p y) := fun y hy => kF_in ((closed g).stays p hp _ (List.mem_map.mpr ⟨y, hy, rfl⟩))
  cases e : (waysS B p).filter (fun y => decide (kF B (nxt p y) = prevV (verd B p))) with
  | nil =>
    have : m ∈ (waysS B p).filter (fun y => decide (kF B (nxt p y) = prevV (verd B p))) := List.mem_filter.mpr ⟨srt_mem.mpr hm, decide_eq_true (by rw [kin m hm]; exact ev)⟩
    rw [e] at this
    cases this
  | cons y r =>
    obtain ⟨h1, h2, h3⟩ := srt_head e
    have h2 := of_decide_eq_true h2
    rw [kin y h1] at h2
    have a := hle y (mem_fit.mpr ⟨h1, h2⟩)
    have b := h3 m hm (decide_eq_true (by rw [kin m hm]; exact ev))
    have : m = y := by omega
    subst this
    exact ⟨m, r, rfl, em⟩
theorem win_of_verd {B : Brd} {p : Plc} {s : Bool} {n : Nat} (h : verd B p = some (s, n)) : (winAt B p = none ↔ n ≠ 0) := by
  constructor
  · intro hw
    have := verd_pos hw h
    omega
  · intro hn
    cases e : winAt B p with
    | none => rfl
    | some t =>
      rw [verd_win e] at h
      cases h
      exact absurd rfl hn
theorem win_of_open {B : Brd} {p : Plc} (h : verd B p = none) : winAt B p = none := by
  cases e : winAt B p with
  | none => rfl
  | some t =>
    rw [verd_win e] at h
    cases h
end Fx

set_option Elab.async false
set_option linter.all false
set_option maxRecDepth 100000
namespace Fx
open PySem PySem.Spec PyProof.Rows L2
/-! ### walks by the moves told -/
theorem move_is {B : Brd} (g : Good B) {p : Plc} (hp : p ∈ allPos B.n) {y : Int} (h : moveB B p = some y) : winAt B p = none ∧ y ∈ waysB B p ∧ verd B (nxt p y) = prevV (verd B p) ∧ nxt p y ∈ allPos B.n := by
  cases e : winAt B p with
  | some s => rw [move_none e] at h; cases h
  | none =>
    obtain ⟨z, ez, hz, ev, _⟩ := move_some g hp e
    rw [h] at ez
    cases ez
    exact ⟨rfl, hz, ev, (closed g).stays p hp _ (List.mem_map.mpr ⟨y, hz, rfl⟩)⟩
theorem move_end {B : Brd} (g : Good B) {p : Plc} (hp : p ∈ allPos B.n) (h : moveB B p = none) : ∃ s, winAt B p = some s := by
  cases e : winAt B p with
  | some s => exact ⟨s, rfl⟩
  | none =>
    obtain ⟨z, ez, _⟩ := move_some g hp e
    rw [h] at ez
    cases ez
end Fx

set_option Elab.async false
set_option linter.all false
set_option maxRecDepth 100000
namespace Fx
open PySem PySem.Spec PyProof.Rows L2
theorem cut_last (xs : List V) (v : V) : cutV (xs ++ [v]) none (some (-1)) = xs := by
  unfold cutV
  have e : HT.sIx (xs ++ [v]).length (xs ++ [v]).length (some (-1)) = xs.length := by
    have h := HT.clip_eq (-1) (xs ++ [v]).length (xs ++ [v]).length
    rw [if_pos (by decide), List.length_append] at h
    rw [List.length_append]
    simp only [List.length_cons, List.length_nil] at h ⊢
    omega
  rw [e, HT.sIx_none, List.drop_zero, Nat.sub_zero, List.take_left]
theorem mod_nat {z : Int} {n : Nat} (h : 0 < n) : ∃ k : Nat, k < n ∧ z % (n : Int) = (k : Int) := by
  have h1 := Int.emod_nonneg z (show (n : Int) ≠ 0 by omega)
  have h2 := Int.emod_lt_of_pos z (show (0 : Int) < (n : Int) by omega)
  exact ⟨(z % (n : Int)).toNat, by omega, by omega⟩
/-- one of a list of data, by a number that is cut to its length -/
theorem pick_at {G : Hp} {xs : List V} {α : Type} {ps : List α} {d : α → PyData} (a : AtAll G xs (ps.map d)) {k : Nat} (hk : k < ps.length) : ∃ x p, xs[k]? = some x ∧ ps[k]? = some p ∧ At G x (d p) := by
  have el : xs.length = ps.length := by rw [a.length, List.length_map]
  have hx : xs[k]? = some xs[k] := List.getElem?_eq_getElem (by omega)
  obtain ⟨e, he, ae⟩ := a.get' hx
  have hp : ps[k]? = some ps[k] := List.getElem?_eq_getElem hk
  rw [List.getElem?_map, hp] at he
  have he : d ps[k] = e := Option.some.inj he
  subst he
  exact ⟨_, _, hx, hp, ae⟩
theorem at_snoc {H : Hp} {α : Type} {xs : List V} {ps : List α} {p : α} {d : α → PyData} (h : AtAll H xs ((ps ++ [p]).map d)) : ∃ l v, xs = l ++ [v] ∧ AtAll H l (ps.map d) ∧ At H v (d p) := by
  rw [List.map_append] at h
  obtain ⟨l, r, e, a, b⟩ := h.split
  cases b with
  | cons b t =>
    cases t
    exact ⟨l, _, e, a, b⟩
theorem nil_depth : (PyData.list ([] : List PyData)).depth = 1 := by simp [PyData.depth, PyData.depthAll]
theorem eqv_nil (l : List PyData) : PyData.eqv (.list l) (.list []) = decide (l = []) := by cases l <;> simp [PyData.eqv, PyData.eqvAll]
theorem sz_ok {B : Brd} (g : Good B) : sz (boardD B) ≤ 1000 := by
  rw [sz_board]
  have h1 := g.len
  have h2 := coops7 g
  omega
end Fx

set_option Elab.async false
set_option linter.all false
set_option maxRecDepth 100000
namespace Fx
open PySem PySem.Spec PyProof.Rows L2
/-! ### games by a side that moves as told, and by replies -/
inductive WalkB (B : Brd) (s : Bool) : Plc → List Plc → List Int → Prop
  | nil (p : Plc) : WalkB B s p [] []
  | own {p : Plc} {y : Int} {W : List Plc} {rs : List Int} (ht : p.t = s) (hm : moveB B p = some y) (h : WalkB B s (nxt p y) W rs) : WalkB B s p (nxt p y :: W) rs
  | oth {p : Plc} {y : Int} {W : List Plc} {rs : List Int} (hw : winAt B p = none) (ht : p.t ≠ s) (hy : y ∈ waysB B p) (h : WalkB B s (nxt p y) W rs) : WalkB B s p (nxt p y :: W) (y :: rs)
theorem nxt_t (p : Plc) (y : Int) : (nxt p y).t = !p.t := by
  unfold nxt
  by_cases h : p.t = true
  · rw [if_pos h, h]; rfl
  · rw [if_neg h]
    cases e : p.t
    · rfl
    · exact absurd e h
def endOf (p : Plc) : List Plc → Plc
  | [] => p
  | q :: W => endOf q W
theorem endOf_snoc (p q : Plc) : ∀ W, endOf p (W ++ [q]) = q := by
  intro W
  induction W generalizing p with
  | nil => rfl
  | cons a r ih => exact ih a
theorem way_pos {B : Brd} (g : Good B) {p : Plc} (hp : p ∈ allPos B.n) {y : Int} (hy : y ∈ waysB B p) : nxt p y ∈ allPos B.n := (closed g).stays p hp _ (List.mem_map.mpr ⟨y, hy, rfl⟩)
theorem way_mv {B : Brd} {p : Plc} {y : Int} (hy : y ∈ waysB B p) : nxt p y ∈ (gameOf B).mv p := List.mem_map.mpr ⟨y, hy, rfl⟩
theorem WalkB.inn {B : Brd} (g : Good B) {s : Bool} {p : Plc} {W : List Plc} {rs : List Int} (h : WalkB B s p W rs) (hp : p ∈ allPos B.n) : endOf p W ∈ allPos B.n ∧ ∀ q ∈ W, q ∈ allPos B.n := by
  induction h with
  | nil p => exact ⟨hp, fun q hq => nomatch hq⟩
  | own ht hm h ih =>
    have h1 := (move_is g hp hm).2.2.2
    obtain ⟨i1, i2⟩ := ih h1
    exact ⟨i1, fun q hq => (List.mem_cons.mp hq).elim (fun e => by rw [e]; exact h1) (i2 q)⟩
  | oth hw ht hy h ih =>
    have h1 := way_pos g hp hy
    obtain ⟨i1, i2⟩ := ih h1
    exact ⟨i1, fun q hq => (List.mem_cons.mp hq).elim (fun e => by rw [e]; exact h1) (i2 q)⟩
theorem WalkB.own_end {B : Brd} {s : Bool} {p : Plc} {W : List Plc} {rs : List Int} {y : Int} (h : WalkB B s p W rs) (ht : (endOf p W).t = s) (hm : moveB B (endOf p W) = some y) : WalkB B s p (W ++ [nxt (endOf p W) y]) rs := by
  induction h with
  | nil p => exact .own ht hm (.nil _)
  | own ht' hm' h ih => exact .own ht' hm' (ih ht hm)
  | oth hw ht' hy h ih => exact .oth hw ht' hy (ih ht hm)
theorem WalkB.oth_end {B : Brd} {s : Bool} {p : Plc} {W : List Plc} {rs : List Int} {y : Int} (h : WalkB B s p W rs) (hw : winAt B (endOf p W) = none) (ht : (endOf p W).t ≠ s) (hy : y ∈ waysB B (endOf p W)) : WalkB B s p (W ++ [nxt (endOf p W) y]) (rs ++ [y]) := by
  induction h with
  | nil p => exact .oth hw ht hy (.nil _)
  | own ht' hm' h ih => exact .own ht' hm' (ih hw ht hy)
  | oth hw' ht' hy' h ih => exact .oth hw' ht' hy' (ih hw ht hy)
theorem WalkB.rs_len {B : Brd} {s : Bool} {p : Plc} {W : List Plc} {rs : List Int} (h : WalkB B s p W rs) : rs.length ≤ W.length := by
  induction h with
  | nil p => exact Nat.le_refl _
  | own _ _ _ ih => rw [List.length_cons]; omega
  | oth _ _ _ _ ih => rw [List.length_cons, List.length_cons]; omega
/-- the winner, moving as told, wins in time -/
theorem walk_win {B : Brd} (g : Good B) {s : Bool} {p : Plc} {W : List Plc} {rs : List Int} (h : WalkB B s p W rs) (hp : p ∈ allPos B.n) {n : Nat} (hv : verd B p = some (s, n)) : ∃ m, verd B (endOf p W) = some (s, m) ∧ m + W.length ≤ n := by
  induction h generalizing n with
  | nil p => exact ⟨n, hv, by simp⟩
  | @own p y W rs ht hm h ih =>
    obtain ⟨hw, hy, ev, hq⟩ := move_is g hp hm
    have h1 := verd_pos hw hv
    rw [hv] at ev
    obtain ⟨m, e, hl⟩ := ih hq (n := n - 1) ev
    exact ⟨m, e, by rw [List.length_cons]; omega⟩
  | @oth p y W rs hw ht hy h ih =>
    have es : s = !p.t := by cases s <;> cases e : p.t <;> simp_all
    subst es
    obtain ⟨m0, rfl, hl⟩ := fin_other (closed g) hp hw hv
    obtain ⟨m1, e1, hm1⟩ := hl.all _ (way_mv hy)
    obtain ⟨m, e, hl2⟩ := ih (way_pos g hp hy) (n := m1) e1
    exact ⟨m, e, by rw [List.length_cons]; omega⟩
end Fx

set_option Elab.async false
set_option linter.all false
set_option maxRecDepth 100000
namespace Fx
open PySem PySem.Spec PyProof.Rows L2
theorem verd_98 {B : Brd} (g : Good B) {p : Plc} {s : Bool} {n : Nat} (h : verd B p = some (s, n)) : n ≤ 98 := by
  have := (Kn_count (goes B) (allPos B.n).length p s n h).1
  have := few98 g
  omega
theorem last_of (p : Plc) : ∀ W, ∃ L, p :: W = L ++ [endOf p W] := by
  intro W
  induction W generalizing p with
  | nil => exact ⟨[], rfl⟩
  | cons a r ih =>
    obtain ⟨L, e⟩ := ih a
    exact ⟨p :: L, by rw [List.cons_append]; exact congrArg (p :: ·) e⟩
end Fx

set_option Elab.async false
set_option linter.all false
set_option maxRecDepth 100000
namespace Fx
open PySem PySem.Spec PyProof.Rows L2
/-! ### exceptions that fly over frames -/
structure Fly (P : Program) (w : World) (outer : List Env) (H : Hp) (s : Shared) (ea : Addr) (cls : Value) (H' : Hp) (s' : Shared) : Prop where
  os : s'.os = s.os
  bare : AllBare s'.gens
  un : Un (frs outer) [] H H' s.heap s'.heap
  hok : HOk P w H' s'.heap
  ex : ∃ (B : Heap) (a0 : Value), Heap.FlyingW B outer ea cls a0 s'.heap ∧ (∀ b u, H' b = some u → ∃ o, B.get? b = some o) ∧ (∀ b o, s.heap.get? b = some o → H b = none → b ∉ frs outer → B.get? b = some o) ∧ ∀ b o, s.heap.get? b = some o → b ∉ frs outer → ∃ o', B.get? b = some o'
def CX1 (P : Program) (w : World) : CXT := fun outer H s E e s' => ∃ ea cls H', e = .ref ea ∧ Fly P w outer H s ea cls H' s' ∧ E cls none H'
theorem obj_there {P : Program} {w : World} {H : Hp} {h : Heap} {a : Addr} {o : HO} (x : ObjOk P w H h a o) : ∃ ob, h.get? a = some ob := by
  cases o with
  | lst xs => obtain ⟨_, _, _, _, e⟩ := x; exact ⟨_, e⟩
  | tup xs => obtain ⟨_, _, _, ob, e, _⟩ := x; exact ⟨ob, e⟩
  | dK kvs => obtain ⟨_, _, _, _, o, _, _, e, _⟩ := x; exact ⟨o, e⟩
  | dT kvs => obtain ⟨_, _, _, _, o, _, _, e, _⟩ := x; exact ⟨o, e⟩
  | set S n => obtain ⟨o, _, _, _, e, _⟩ := x; exact ⟨o, e⟩
  | ins C dx fs => obtain ⟨_, _, _, e, _⟩ := x; exact ⟨_, e⟩
  | own y => exact x
  | xd fs => obtain ⟨_, ⟨o, _, _, e, _⟩, _⟩ := x; exact ⟨o, e⟩
  | rng lo hi => obtain ⟨_, _, _, e⟩ := x; exact ⟨_, e⟩
  | frz ob u => exact ⟨ob, x.1⟩
  | tbl ps => exact ⟨_, x⟩
  | met f y => exact ⟨_, x⟩
  | ext φ => exact x.2.1
theorem hok_fly {P : Program} {w : World} {H : Hp} {B h h' : Heap} (x : HOk P w H h) (t : ∀ b u, H b = some u → ∃ o, B.get? b = some o) (k1 : B.StaysIn h) (k2 : B.StaysIn h') : HOk P w H h' := fun a o e =>
  (x a o e).stay (fun b u hb q => by
    have tr : ∃ v, H b = some v := by
      rcases hb with z | z
      · rw [z]; exact ⟨o, e⟩
      · exact ⟨_, z⟩
    obtain ⟨v, hv⟩ := tr
    obtain ⟨o', ho'⟩ := t b v hv
    have := k1 b o' ho'
    rw [q] at this
    cases this
    exact k2 b u ho') (fun _ q => q) fun _ _ q => q
section
variable {X : Cx} {pins : List (Addr × Obj)} {σ : L2.St} {H H' : Hp} {s : Shared} {h2 : Heap}
/-- what was there at the entry, seen from behind an exception -/
theorem un_entry (I : L2.Inv X pins σ H s) (hex : X.ex = []) (keep : ∀ b o, s.heap.get? b = some o → H b = none → b ∉ frs X.stack → h2.get? b = some o) (slot : ∀ b o, s.heap.get? b = some o → H b = none → b ∈ frs X.stack → ∃ sl, h2.get? b = some { o with slots := sl })
    (free : ∀ b o, s.heap.get? b = some o → H b = none → H' b = none) (there : ∀ b o, s.heap.get? b = some o → ∃ o', h2.get? b = some o')
    (tups : ∀ b xs, H b = some (.tup xs) → H' b = some (.tup xs)) (frzs : ∀ b o u, H b = some (.frz o u) → H' b = some (.frz o u)) (tbls : ∀ b ps, H b = some (.tbl ps) → ∃ more, H' b = some (.tbl (ps ++ more))) :
    Un X.fs [] X.H₀ H' X.s₀.heap h2 := by
  have nex : ∀ b : Addr, b ∉ X.ex := fun b z => by rw [hex] at z; cases z
  have nst : ∀ b o, X.s₀.heap.get? b = some o → b ∉ X.fs → b ∉ frs X.stack := fun b o e hb hm => by
    rcases List.mem_cons.mp (I.stkSub b hm) with z | z
    · rw [z] at e
      exact absurd (Nat.lt_of_lt_of_le (Heap.lt_size e) I.ok.above) (Nat.lt_irrefl _)
    · exact hb z
  refine ⟨fun b o e n hb hx => ?_, fun b o e n hb hx => ?_, fun b o e n hx => ?_, fun b o e hx => ?_, fun b xs e => tups b xs (I.base.tups b xs e), fun b o u e => frzs b o u (I.base.frzs b o u e), fun b ps e => ?_⟩
  · exact keep b o (I.base.keep b o e n hb (nex b)) (I.base.free b o e n (nex b)) (nst b o e hb)
  · obtain ⟨sl, e1⟩ := I.base.slot b o e n hb (nex b)
    have n1 := I.base.free b o e n (nex b)
    by_cases hm : b ∈ frs X.stack
    · obtain ⟨sl', e2⟩ := slot b _ e1 n1 hm
      exact ⟨sl', e2⟩
    · exact ⟨sl, keep b _ e1 n1 hm⟩
  · obtain ⟨o', e1⟩ := I.base.there b o e (nex b)
    exact free b o' e1 (I.base.free b o e n (nex b))
  · obtain ⟨o', e1⟩ := I.base.there b o e (nex b)
    exact there b o' e1
  · obtain ⟨m1, e1⟩ := I.base.tbls b ps e
    obtain ⟨m2, e2⟩ := tbls b _ e1
    exact ⟨m1 ++ m2, by rw [e2, Array.append_assoc]⟩
theorem all_in (I : L2.Inv X pins σ H s) (hex : X.ex = []) {B : Heap} (h : ∀ b o, s.heap.get? b = some o → b ∉ frs X.stack → ∃ o', B.get? b = some o') : ∀ b o, X.s₀.heap.get? b = some o → b ∉ X.fs → ∃ o', B.get? b = some o' := fun b o e hb => by
  have nex : b ∉ X.ex := fun z => by rw [hex] at z; cases z
  obtain ⟨o', e'⟩ := I.base.there b o e nex
  refine h b o' e' fun hm => ?_
  rcases List.mem_cons.mp (I.stkSub b hm) with z | z
  · rw [z] at e
    exact absurd (Nat.lt_of_lt_of_le (Heap.lt_size e) I.ok.above) (Nat.lt_irrefl _)
  · exact hb z
theorem old_in (I : L2.Inv X pins σ H s) (hex : X.ex = []) {B : Heap} (h : ∀ b o, s.heap.get? b = some o → H b = none → b ∉ frs X.stack → B.get? b = some o) : ∀ b o, X.s₀.heap.get? b = some o → X.H₀ b = none → b ∉ X.fs → B.get? b = some o := fun b o e n hb => by
  have nex : b ∉ X.ex := fun z => by rw [hex] at z; cases z
  refine h b o (I.base.keep b o e n hb nex) (I.base.free b o e n nex) fun hm => ?_
  rcases List.mem_cons.mp (I.stkSub b hm) with z | z
  · rw [z] at e
    exact absurd (Nat.lt_of_lt_of_le (Heap.lt_size e) I.ok.above) (Nat.lt_irrefl _)
  · exact hb z
end
section
variable {P : Program} {w : World} {K : PySem.W.Frag} {mg : Str → Option Value} {base : Heap} {N : List Str} {qual : Str} {scope : Scope} {f : Addr} {cd : Value} {A : Around} {outer : List Env} {s₀ : Shared} {H₀ : Hp} {E : XK}
/-- a def's body whose exceptions may leave -/
abbrev cx1 (P : Program) (w : World) (K : PySem.W.Frag) (mg : Str → Option Value) (base : Heap) (N : List Str) (qual : Str) (scope : Scope) (f : Addr) (cd : Value) (A : Around) (outer : List Env) (s₀ : Shared) (H₀ : Hp) (E : XK) : Cx := cxOf (CX1 P w) P w K mg base N qual scope f cd A outer s₀ H₀ E
/-- an exception just made leaves its frame -/
theorem leaves_made {pins : List (Addr × Obj)} {σ : L2.St} {H : Hp} {s : Shared} {h1 : Heap} {e : Addr} {cls : Value} {args : List Value} (I : L2.Inv (cx1 P w K mg base N qual scope f cd A outer s₀ H₀ E) pins σ H s) (hx : Heap.MadeExcOf s.heap h1 e cls args) (q : E cls none H) :
    (cx1 P w K mg base N qual scope f cd A outer s₀ H₀ E).xe (.ref e) { s with heap := h1 } := by
  have hin : ∀ env ∈ (cx1 P w K mg base N qual scope f cd A outer s₀ H₀ E).stack, ∀ a, env.frame = some a → a ∈ frs (cx1 P w K mg base N qual scope f cd A outer s₀ H₀ E).stack := fun env he a ha => List.mem_filterMap.mpr ⟨env, he, ha⟩
  refine wpAny_leaves_madeW (base := PySem.W.hideAll s.heap (frs (cx1 P w K mg base N qual scope f cd A outer s₀ H₀ E).stack)) (h := s.heap) I.ok.frames rfl (fun b o z => PySem.W.of_hideAll _ z) (PySem.W.funFrames_hide I.stack hin) hx fun h2 t x1 x2 x3 x4 => ?_
  have keep : ∀ b o, s.heap.get? b = some o → b ∉ frs (cx1 P w K mg base N qual scope f cd A outer s₀ H₀ E).stack → h2.get? b = some o := fun b o z hb => x1.1 b o (PySem.W.hideAll_get _ z hb)
  have slot : ∀ b o, s.heap.get? b = some o → b ∈ frs (cx1 P w K mg base N qual scope f cd A outer s₀ H₀ E).stack → ∃ sl, h2.get? b = some { o with slots := sl } := fun b o z hb => by
    obtain ⟨_, o', ho', hd⟩ := I.stack.mem hb
    rw [z] at ho'
    cases ho'
    exact x4 b o (hx.keeps b o z) hd
  have tr : ∀ b u, H b = some u → b ∉ frs (cx1 P w K mg base N qual scope f cd A outer s₀ H₀ E).stack := fun b u z hb => by
    rw [I.stkFree b hb] at z
    cases z
  refine ⟨e, cls, H, rfl, ⟨I.os, I.bare, un_entry I rfl (fun b o z _ hb => keep b o z hb) (fun b o z _ hb => slot b o z hb) (fun _ _ _ n => n) (fun b o z => ?_) (fun _ _ z => z) (fun _ _ _ z => z) (fun b ps z => ⟨#[], by rw [z]; simp⟩), ?_, _, _, x1, fun b u z => ?_, old_in I rfl (fun b o z _ hb => PySem.W.hideAll_get _ z hb), all_in I rfl fun b o z hb => ⟨o, PySem.W.hideAll_get _ z hb⟩⟩, q⟩
  · by_cases hb : b ∈ frs (cx1 P w K mg base N qual scope f cd A outer s₀ H₀ E).stack
    · obtain ⟨sl, z2⟩ := slot b o z hb
      exact ⟨_, z2⟩
    · exact ⟨o, keep b o z hb⟩
  · refine hok_fly (B := PySem.W.hideAll s.heap (frs (cx1 P w K mg base N qual scope f cd A outer s₀ H₀ E).stack)) I.hok (fun b u z => ?_) (fun b o z => PySem.W.of_hideAll _ z) x1.1
    obtain ⟨o, ho⟩ := obj_there (I.hok b u z)
    exact ⟨o, PySem.W.hideAll_get _ ho (tr b u z)⟩
  · obtain ⟨o, ho⟩ := obj_there (I.hok b u z)
    exact ⟨o, PySem.W.hideAll_get _ ho (tr b u z)⟩
/-- a callee's exception passes through -/
theorem pass1 : Passes (CX1 P w) (cx1 P w K mg base N qual scope f cd A outer s₀ H₀ E) E := by
  rintro pins σ H s e s' I ⟨ea, cls, H', rfl, F, q⟩
  obtain ⟨B, a0, fl, tr, old, all⟩ := F.ex
  refine wpAny_leaves_onW I.ok.frames rfl fl fun h2 x1 x2 => ?_
  have keep : ∀ b o, s.heap.get? b = some o → H b = none → b ∉ frs (cx1 P w K mg base N qual scope f cd A outer s₀ H₀ E).stack → h2.get? b = some o := fun b o z n hb => x1.1 b o (old b o z n hb)
  have slot : ∀ b o, s.heap.get? b = some o → H b = none → b ∈ frs (cx1 P w K mg base N qual scope f cd A outer s₀ H₀ E).stack → ∃ sl, h2.get? b = some { o with slots := sl } := fun b o z n hb => by
    obtain ⟨sl, z1⟩ := F.un.slot b o z n hb (by simp)
    obtain ⟨_, o', ho', hd⟩ := I.stack.mem hb
    rw [z] at ho'
    cases ho'
    obtain ⟨sl', z2⟩ := x2 b _ z1 hd
    exact ⟨sl', z2⟩
  refine ⟨ea, cls, H', rfl, ⟨F.os.trans I.os, F.bare, un_entry I rfl keep slot (fun b o z n => F.un.free b o z n (by simp)) (fun b o z => ?_) F.un.tups F.un.frzs F.un.tbls, hok_fly F.hok tr fl.1 x1.1, B, a0, x1, tr, old_in I rfl old, all_in I rfl all⟩, q⟩
  by_cases hb : b ∈ frs (cx1 P w K mg base N qual scope f cd A outer s₀ H₀ E).stack
  · obtain ⟨sl, z2⟩ := slot b o z (I.stkFree b hb) hb
    exact ⟨_, z2⟩
  · obtain ⟨o', z2⟩ := all b o z hb
    exact ⟨o', x1.1 b o' z2⟩
end
/-! ### classes of one's own, under ValueError -/
abbrev bmV : List Value := [.type "ValueError", .type "Exception", .type "BaseException", .type "object"]
theorem cls_of {K : PySem.W.Frag} {h : Heap} {mg : Str → Option Value} {x : Str} {C : Addr} (X : K.In h) (hm : mg x = some (.ref C)) (hq : PySem.W.excIn K C bmV "ValueError.__new__" = true) : OwnCls x C bmV "ValueError.__new__" mg h := by
  refine ⟨hm, ?_⟩
  unfold PySem.W.excIn at hq
  split at hq
  · rename_i d1 c1 s1 hl
    split at hq
    · rename_i C2 m2 a0 a1 a2 a3 nn a5 e1 e2
      simp only [Bool.not_eq_true', Bool.and_eq_true, beq_iff_eq] at hq
      obtain ⟨⟨⟨⟨⟨h1, h2⟩, h3⟩, h4⟩, h5⟩, h6⟩ := hq
      subst h1 h2
      obtain ⟨b1, b2, b3, b4, b5, b6, b7, b8, b9, b10, b11⟩ := c1
      simp only at e1 h3 h5 h6
      subst e1 h3
      have e3 : s1 = #[a0, a1, a2, a3, some (.builtin "ValueError.__new__"), a5] := by
        obtain ⟨l⟩ := s1
        exact congrArg Array.mk e2
      subst e3
      exact ⟨m2, b4, b1, b5, b2, b6, b7, b8, b9, b10, d1, a0, a1, a2, a3, a5, _, X _ _ hl, .of_isNs (PySem.W.isNs_of_in X h5), PySem.W.nsMap_none_of_in X h5 h6, PySem.W.tail_of_in X h4⟩
    · cases hq
  · cases hq
section
variable {P : Program} {w : World} {K : PySem.W.Frag} {mg : Str → Option Value} {base : Heap} {N : List Str} {qual : Str} {scope : Scope} {f : Addr} {cd : Value} {A : Around} {outer : List Env} {s₀ : Shared} {H₀ : Hp} {E : XK}
def tRaise (E : XK) (C : Addr) : TS := fun _ _ H => E (.ref C) none H
theorem ps_raise {x : Str} {C : Addr} {t : Str} {j : Nat} {np cp p1 pos : Pos} (hg : Gl (cx1 P w K mg base N qual scope f cd A outer s₀ H₀ E) x) (hm : mg x = some (.ref C)) (hq : PySem.W.excIn K C bmV "ValueError.__new__" = true) (hd : (x == ("__debug__" : Str)) = false := by decide) :
    PS (cx1 P w K mg base N qual scope f cd A outer s₀ H₀ E) (.Raise (some (.Call (.Name x np) [.Constant (.str t) j p1] [] cp)) none pos) (tRaise E C) := by
  intro pins s σ H D I h
  obtain ⟨tl, n, nm, q, bs, hdct, sn, sub, ab, col, dd, k0, k1, k2, k3, k5, mN, hC, hN, hni, T⟩ := (cls_of I.kIn hm hq).obj
  refine wpAny_Raise_call_subU (C := C) (nm := nm) (q := q) (N := n) (bs := bs) (bm := tl) (hdct := hdct) (sn := sn) (sub := sub) (ab := ab) (col := col) (dd := dd) (k0 := k0) (k1 := k1) (k2 := k2) (k3 := k3) (k5 := k5)
    PySem.F.excBase_ValueError (by decide) PySem.F.excBase_ValueError (mN := mN) (T.hasType PySem.F.excBase_ValueError.hasBase) (I.ok.hd rfl) rfl hni (ld_glob I hg hm ⟨rfl, ?_⟩ hd)
  refine Calls.evalArgs_plain (Calls.spliced_cons (Calls.Constant_str (k := j) (pos := p1) (Calls.spliced_nil ⟨rfl, by show 1 ≤ sizeLine; decide, hC, hN, T, fun h' e hx => ?_⟩)))
  exact leaves_made (I.tok _) hx h
/-- a def whose exceptions may leave it -/
theorem fun_okX {x : Str} {st : Stmt} {f : Addr} {fd : FuncData} {N ps : List Str} {k : Nat} {sp : Sp} (F : Fun K x qual st f fd) (S : FnScope N ps (defScope st)) (len : ∀ vs H Q E, sp vs H Q E → vs.length = ps.length)
    (hbody : ∀ (cdv : Value) (A : Around) (outer : List Env) (s : Shared) (H : Hp) (vs : List V) (Q : VK) (E : XK), Room k (A.deeper (envOfC qual (defScope st) s.heap.objs.size f cdv)) → sp vs H Q E →
      ∃ t, PSs (cx1 P w K mg base N qual (defScope st) f cdv A outer s H E) (defBody st) t ∧ t { nx := fun _ H' => Q .non H', rt := Q } (start N vs) H) : FnOk P w K mg base (CX1 P w) (k + 1) f fd ps sp := by
  obtain ⟨oc, od, kV, doc, pm, an, cdv, ct, osl, rfl, lk, hcd⟩ := F.ex
  exact fn_of lk hcd S len fun A outer s H vs Q E hr hsp => hbody cdv A outer s H vs Q E hr hsp
theorem own1 : PassesOwn (model P w) (cx1 P w K mg base N qual scope f cd A outer s₀ H₀ E).A (cx1 P w K mg base N qual scope f cd A outer s₀ H₀ E).env (cx1 P w K mg base N qual scope f cd A outer s₀ H₀ E).xe := PassesOwn.leaving
end
end Fx

set_option Elab.async false
set_option linter.all false
set_option maxRecDepth 100000
namespace Fx
open PySem PySem.Spec PyProof.Rows L2
/-! ### a try: what the body raises is caught -/
/-- the same body with other pins and another wish -/
abbrev reX (X : Cx) (pn : List (Addr × Obj)) (xe : Value → Shared → Prop) : Cx := { X with pn := pn, xe := xe }
/-- within an except suite -/
abbrev mkX (X : Cx) (e : Value) : Cx := { X with A := X.A.mark (some e), calm := false, xe := fun _ _ => False }
section
variable {X : Cx} {pins : List (Addr × Obj)} {σ : L2.St} {H : Hp} {s : Shared}
theorem ok_re {pn : List (Addr × Obj)} {xe : Value → Shared → Prop} (ok : X.Ok) : (reX X pn xe).Ok :=
  ⟨ok.mod, ok.kind, ok.glob, ok.blt, ok.above, ok.inj, ok.has, ok.cab, ok.hd, ok.frames, ok.stk, ok.exf, ok.bs, ok.bsz, ok.noex, ok.exfs, ok.funs, ok.frf⟩
theorem ok_back {pn : List (Addr × Obj)} {xe : Value → Shared → Prop} (ok : (reX X pn xe).Ok) : X.Ok :=
  ⟨ok.mod, ok.kind, ok.glob, ok.blt, ok.above, ok.inj, ok.has, ok.cab, ok.hd, ok.frames, ok.stk, ok.exf, ok.bs, ok.bsz, ok.noex, ok.exfs, ok.funs, ok.frf⟩
theorem inv_re {xe : Value → Shared → Prop} (I : L2.Inv X pins σ H s) : L2.Inv (reX X (X.pn ++ pins) xe) [] σ H s :=
  ⟨ok_re I.ok, I.os, I.bare, I.base, I.loc, I.cell, I.free, I.freeC, fun p hp => I.pin p (by rw [List.append_nil] at hp; exact hp), I.hok, I.len⟩
theorem inv_back {pins' : List (Addr × Obj)} {xe : Value → Shared → Prop} (I : L2.Inv (reX X (X.pn ++ pins) xe) pins' σ H s) : L2.Inv X pins σ H s :=
  ⟨ok_back I.ok, I.os, I.bare, I.base, I.loc, I.cell, I.free, I.freeC, fun p hp => I.pin p (List.mem_append_left _ hp), I.hok, I.len⟩
theorem sp_back {pins' : List (Addr × Obj)} {xe : Value → Shared → Prop} {D : Ends} {f : Flow} {s' : Shared} (h : SP (reX X (X.pn ++ pins) xe) pins' D f s') : SP X pins D f s' := by
  cases f with
  | next => obtain ⟨σ', H', I, q⟩ := h; exact ⟨σ', H', inv_back I, q⟩
  | brk => obtain ⟨σ', H', I, q⟩ := h; exact ⟨σ', H', inv_back I, q⟩
  | cont => obtain ⟨σ', H', I, q⟩ := h; exact ⟨σ', H', inv_back I, q⟩
  | ret u => obtain ⟨v, σ', H', I, r, q⟩ := h; exact ⟨v, σ', H', inv_back I, r, q⟩
theorem inv_mk {e : Value} (I : L2.Inv X pins σ H s) : L2.Inv (mkX X e) pins σ H s :=
  ⟨⟨I.ok.mod, I.ok.kind, I.ok.glob, I.ok.blt, I.ok.above, I.ok.inj, I.ok.has, I.ok.cab, (fun z => nomatch z), I.ok.frames, I.ok.stk, I.ok.exf, I.ok.bs, I.ok.bsz, I.ok.noex, I.ok.exfs, I.ok.funs, I.ok.frf⟩, I.os, I.bare, I.base, I.loc, I.cell, I.free, I.freeC, I.pin, I.hok, I.len⟩
theorem inv_mkB {e : Value} (hc : X.A.handled = none) (I : L2.Inv (mkX X e) pins σ H s) : L2.Inv X pins σ H s :=
  ⟨⟨I.ok.mod, I.ok.kind, I.ok.glob, I.ok.blt, I.ok.above, I.ok.inj, I.ok.has, I.ok.cab, (fun _ => hc), I.ok.frames, I.ok.stk, I.ok.exf, I.ok.bs, I.ok.bsz, I.ok.noex, I.ok.exfs, I.ok.funs, I.ok.frf⟩, I.os, I.bare, I.base, I.loc, I.cell, I.free, I.freeC, I.pin, I.hok, I.len⟩
theorem sp_mkB {e : Value} (hc : X.A.handled = none) {D : Ends} {f : Flow} {s' : Shared} (h : SP (mkX X e) pins D f s') : SP X pins D f s' := by
  cases f with
  | next => obtain ⟨σ', H', I, q⟩ := h; exact ⟨σ', H', inv_mkB hc I, q⟩
  | brk => obtain ⟨σ', H', I, q⟩ := h; exact ⟨σ', H', inv_mkB hc I, q⟩
  | cont => obtain ⟨σ', H', I, q⟩ := h; exact ⟨σ', H', inv_mkB hc I, q⟩
  | ret u => obtain ⟨v, σ', H', I, r, q⟩ := h; exact ⟨v, σ', H', inv_mkB hc I, r, q⟩
/-- an exception that has come to this frame; whatever happens to its own records, the frame's word holds -/
def Land (X : Cx) (pins : List (Addr × Obj)) (σ : L2.St) (H : Hp) (ea : Addr) (cls : Value) (s : Shared) : Prop :=
  ∃ (B : Heap) (a0 : Value), Heap.FlyingW B X.stack ea cls a0 s.heap ∧ ∀ h, Heap.FlyingW B X.stack ea cls a0 h → s.heap.UpToSlots h → L2.Inv X pins σ H { s with heap := h }
theorem landed {H' : Hp} {ea : Addr} {cls : Value} {s' : Shared} (I : L2.Inv X pins σ H s) (F : Fly X.prog X.w X.stack H s ea cls H' s') : Land X pins σ H' ea cls s' := by
  obtain ⟨B, a0, fl, tr, old, all⟩ := F.ex
  refine ⟨B, a0, fl, fun h x1 x2 => ?_⟩
  have slot : ∀ b o, s.heap.get? b = some o → H b = none → b ∈ frs X.stack → ∃ sl, h.get? b = some { o with slots := sl } := fun b o z n hb => by
    obtain ⟨sl, z1⟩ := F.un.slot b o z n hb (by simp)
    obtain ⟨_, o', ho', hd⟩ := I.stack.mem hb
    rw [z] at ho'
    cases ho'
    obtain ⟨sl', z2⟩ := x2 b _ z1 hd
    exact ⟨sl', z2⟩
  have un : Un (frs X.stack) [] H H' s.heap h := ⟨fun b o z n hb _ => x1.1 b o (old b o z n hb), fun b o z n hb _ => slot b o z n hb, fun b o z n _ => F.un.free b o z n (by simp), fun b o z _ => by
    by_cases hb : b ∈ frs X.stack
    · obtain ⟨sl, z2⟩ := slot b o z (I.stkFree b hb) hb
      exact ⟨_, z2⟩
    · obtain ⟨o', z2⟩ := all b o z hb
      exact ⟨o', x1.1 b o' z2⟩, F.un.tups, F.un.frzs, F.un.tbls⟩
  have os := F.os
  have bare := F.bare
  have hok := hok_fly F.hok tr fl.1 x1.1
  exact I.call' (s' := { s' with heap := h }) (ch := []) os un hok bare fun b z => absurd z (by simp)
end
/-- the clauses, from the first on -/
def Hands (X : Cx) (hs : List ExceptHandler) (th : Value → TS) : Prop :=
  ∀ (pins : List (Addr × Obj)) (σ : L2.St) (H : Hp) (s : Shared) (ea : Addr) (cls : Value) (D : Ends), Land X pins σ H ea cls s → th cls D σ H → wpAny (model X.prog X.w) X.A (handleBy (.ref ea) X.env hs) (SP X pins D) X.xe s
def hNil : Value → TS := fun _ _ _ _ => False
def hCons (K : PySem.W.Frag) (C : Addr) (ts : TS) (th : Value → TS) : Value → TS := fun cls D σ H => ∃ b, PySem.W.exmOne K cls (.ref C) = some b ∧ if b = true then ts D σ H else th cls D σ H
theorem hands_nil {X : Cx} : Hands X [] hNil := fun _ _ _ _ _ _ _ _ h => h.elim
theorem hands_cons {X : Cx} {c : Str} {C : Addr} {np pos : Pos} {b₀ : Stmt} {suite : List Stmt} {rest : List ExceptHandler} {ts : TS} {th : Value → TS} (hc : X.calm = true) (hg : Gl X c) (hm : X.mg c = some (.ref C)) (hs : ∀ e : Value, PSs (mkX X e) (b₀ :: suite) ts) (hr : Hands X rest th)
    (hd : (c == ("__debug__" : Str)) = false := by decide) : Hands X (.ExceptHandler (some (.Name c np)) none (b₀ :: suite) pos :: rest) (hCons X.K C ts th) := by
  intro pins σ H s ea cls D L h
  obtain ⟨b, hb, h⟩ := h
  have L' := L
  obtain ⟨B, a0, fl, inv⟩ := L
  have I := inv s.heap fl (Heap.UpToSlots.refl _)
  have hh : X.A.handled = none := I.ok.hd hc
  refine wpAny_handleBy_cons (codeAny_handlers_test (ld_glob (X := mkX X (.ref ea)) (inv_mk I) hg hm ?_ hd)) (by intro q; cases q)
  obtain ⟨ob, hob, hcl⟩ := fl.there
  have lt : PySem.W.Looks (model X.prog X.w) s.heap (typeOf (.ref ea)) cls := (PySem.W.Looks.ld hob).andThen (by rw [hcl]; exact PySem.W.Looks.now)
  refine (PySem.W.exm_one I.kIn lt hb).here ?_
  cases b with
  | true =>
    refine codeAny_handlers_suite (lands_againW fl fun h6 x1 x2 => ?_)
    have I6 := inv_mk (e := .ref ea) (inv h6 x1 x2)
    exact wpAny_mono (hs (.ref ea) pins _ σ H D I6 h) (fun f s2 q => sp_mkB hh q) fun _ _ z => z.elim
  | false => exact hr pins σ H s ea cls D L' h
/-- f(..) within a try: what is wanted of an exception may speak of the names -/
def tCallS (sp : Sp) (EX : L2.St → Value → Hp → Prop) (t : TA) : TE := fun σ H Q => t σ H fun vs H1 => sp vs H1 Q fun cls _ H' => EX σ cls H'
def PassesS (X : Cx) (EX : L2.St → Value → Hp → Prop) : Prop := ∀ (pins : List (Addr × Obj)) (σ : L2.St) (H : Hp) (s : Shared) (e : Value) (s' : Shared), L2.Inv X pins σ H s → CX1 X.prog X.w X.stack H s (fun cls _ H' => EX σ cls H') e s' → X.xe e s'
section
variable {X : Cx} {k : Nat} {f : Addr} {fd : FuncData} {ps : List Str} {sp : Sp} {x : Str} {p pos : Pos} {e : Expr} {es : List Expr} {t : TA} {EX : L2.St → Value → Hp → Prop}
theorem pe_callS (F : FnOk X.prog X.w X.K X.mg X.base (CX1 X.prog X.w) k f fd ps sp) (hr : Room k X.A) (hg : Gl X x) (hm : X.mg x = some (.ref f)) (hk : PySem.W.keepIn X.K (.ref f) = true) (hb : Binds X.K fd ps []) (hx : PassesS X EX)
    (ha : PA X (e :: es) t) (hdb : (x == ("__debug__" : Str)) = false := by decide) (he : starEach (e :: es) X.env = (false, eval e X.env) :: starEach es X.env := by rfl) (hpl : (backTo pos (starEach es X.env)).any (·.1) = false := by rfl) :
    PE X (.Call (.Name x p) (e :: es) [] pos) (tCallS sp EX t) := by
  intro pins s σ H Q I h
  refine wpAny_Call_Name_kw (ld_glob I hg hm ?_ hdb)
  refine PySem.W.callWith_K (h₀ := X.base) I.ok.mod.kin hk (thn (ha pos pins s σ H _ I h) fun us s1 ⟨vs, H1, I1, r, q⟩ => ⟨I1.kIn, ?_⟩) he hpl
  have hl : us.length = ps.length := by rw [← r.length]; exact F.len _ _ _ _ q
  have hb' := hb s1 us I1.kIn (by rw [List.append_nil]; exact hl)
  rw [List.append_nil] at hb'
  refine wpAny_call (codeAny_mono (F.run X.A X.stack s1 H1 ⟨us, []⟩ us vs Q (fun cls _ H' => EX σ cls H') hr I1.env0 hb' r q) fun r s' hq => ?_)
  cases r with
  | error e => exact hx pins σ H1 s1 e s' I1 hq
  | ok fl =>
    cases fl with
    | ret u => exact I1.after hq
    | next => exact False.elim hq
    | brk => exact False.elim hq
    | cont => exact False.elim hq
def sTry (tb : (L2.St → Value → Hp → Prop) → TS) (th : Value → TS) : TS := fun D σ H => ∃ EX : L2.St → Value → Hp → Prop, tb EX D σ H ∧ ∀ σ' cls H', EX σ' cls H' → th cls D σ' H'
theorem ps_try {body : List Stmt} {h₀ : ExceptHandler} {hs : List ExceptHandler} {tb : (L2.St → Value → Hp → Prop) → TS} {th : Value → TS} {pos : Pos} (hst : ∃ L, X.stack = X.env :: X.outer ∧ X.env.frame = some L)
    (hb : ∀ (EX : L2.St → Value → Hp → Prop) (pn : List (Addr × Obj)) (xe : Value → Shared → Prop), PassesS (reX X pn xe) EX → PSs (reX X pn xe) body (tb EX)) (hh : Hands X (h₀ :: hs) th) :
    PS X (.Try body (h₀ :: hs) [] [] pos) (sTry tb th) := by
  intro pins s σ H D I h
  obtain ⟨EX, h, hth⟩ := h
  obtain ⟨L, hst, hfr⟩ := hst
  refine wpAny_Try_except (wpAny_mono (hb EX (X.pn ++ pins) _ ?_ [] s σ H D (inv_re I) h) (fun f s1 q => ?_) fun _ _ z => z)
  · rintro pins' σ' H1 s1 e s' I1 ⟨ea, cls, H', rfl, F, q⟩
    have I1' : L2.Inv X pins σ' H1 s1 := inv_back I1
    have LD := landed I1' F
    obtain ⟨B, a0, fl, inv⟩ := LD
    rw [hst] at fl
    refine wpAny_looks_onW (by rw [← hst]; exact I.ok.frames) hfr fl fun h4 x1 x2 => ?_
    refine wpAny_landsW x1 fun h5 y1 y2 => ?_
    rw [← hst] at y1 fl
    refine hh pins σ' H' _ ea cls D ⟨B, a0, y1, fun h6 z1 z2 => inv h6 z1 ((x2.trans y2).trans z2)⟩ (hth σ' cls H' q)
  · cases f with
    | next => exact wpAny_execs_nil (sp_back (f := .next) q)
    | brk => exact sp_back (f := .brk) q
    | cont => exact sp_back (f := .cont) q
    | ret u => exact sp_back (f := .ret u) q
end
end Fx

set_option Elab.async false
set_option linter.all false
set_option maxRecDepth 100000
namespace Fx
open PySem PySem.Spec PyProof.Rows L2
/-! ### d.values(): the view, its walk -/
section
variable {prog : Program} {w : World} {A : Around} {E : Value → Shared → Prop} {s : Shared} {d it : Addr} {es : Array DictEntry} {ep i : Nat}
end
section
variable {X : Cx}
/-! ### list.count of texts, of truths -/
end
section
variable {X : Cx}
end
/-! ### classes of exceptions, defs that raise -/
structure Kls (K : PySem.W.Frag) (mg : Str → Option Value) (x : Str) where
  C : Addr
  mg : mg x = some (.ref C)
  ex : PySem.W.excIn K C bmV "ValueError.__new__" = true
  ns : PySem.W.nsIn K mainGlobals x = some (some (.ref C))
structure GotC (K : PySem.W.Frag) (x : Str) : Prop where
  ex : ∃ C, PySem.W.nsIn K mainGlobals x = some (some (.ref C)) ∧ PySem.W.excIn K C bmV "ValueError.__new__" = true
theorem gotc_mk {K : PySem.W.Frag} {x : Str} {C : Addr} (a : PySem.W.nsIn K mainGlobals x = some (some (.ref C))) (e : PySem.W.excIn K C bmV "ValueError.__new__" = true) : GotC K x := ⟨C, a, e⟩
structure GotM (K : PySem.W.Frag) (x y : Str) (v : Bool) : Prop where
  ex : ∃ A B, PySem.W.nsIn K mainGlobals x = some (some (.ref A)) ∧ PySem.W.nsIn K mainGlobals y = some (some (.ref B)) ∧ PySem.W.exmOne K (.ref A) (.ref B) = some v
theorem gotm_mk {K : PySem.W.Frag} {x y : Str} {v : Bool} {A B : Addr} (a : PySem.W.nsIn K mainGlobals x = some (some (.ref A))) (b : PySem.W.nsIn K mainGlobals y = some (some (.ref B))) (e : PySem.W.exmOne K (.ref A) (.ref B) = some v) : GotM K x y v := ⟨A, B, a, b, e⟩
theorem GotM.of {K : PySem.W.Frag} {x y : Str} {v : Bool} {A B : Addr} (h : GotM K x y v) (a : PySem.W.nsIn K mainGlobals x = some (some (.ref A))) (b : PySem.W.nsIn K mainGlobals y = some (some (.ref B))) : PySem.W.exmOne K (.ref A) (.ref B) = some v := by
  obtain ⟨A', B', h1, h2, h3⟩ := h.ex
  rw [a] at h1
  rw [b] at h2
  cases h1
  cases h2
  exact h3
structure CalX (P : Program) (w : World) (K : PySem.W.Frag) (mg : Str → Option Value) (base : Heap) (k : Nat) (x : Str) (ps : List Str) (sp : Sp) where
  f : Addr
  fd : FuncData
  ok : FnOk P w K mg base (CX1 P w) k f fd ps sp
  mg : mg x = some (.ref f)
  kp : PySem.W.keepIn K (.ref f) = true
  b : Binds K fd ps []
end Fx

set_option Elab.async false
set_option linter.all false
set_option maxRecDepth 100000
namespace Fx
open PySem PySem.Spec PyProof.Rows L2
/-- a def that may raise, called where it does not -/
theorem passN {P : Program} {w : World} {X : Cx} : Passes (CX1 P w) X E0 := fun _ _ _ _ _ _ _ ⟨_, _, _, _, _, q⟩ => q.elim
def othS (s : Bool) (q : Plc) : Bool := !decide (q.t = s)
/-- where the other side moved, and what came before its last move -/
theorem WalkB.spots {B : Brd} {s : Bool} {p : Plc} {W : List Plc} {rs : List Int} (h : WalkB B s p W rs) : (rs = [] ∧ (p :: W).dropLast.filter (othS s) = []) ∨
    ∃ W1 rs1 y sp, rs = rs1 ++ [y] ∧ W1.length ≤ W.length ∧ WalkB B s p W1 rs1 ∧ winAt B (endOf p W1) = none ∧ (endOf p W1).t ≠ s ∧ (p :: W).dropLast.filter (othS s) = sp ++ [endOf p W1] := by
  induction h with
  | nil p => exact .inl ⟨rfl, rfl⟩
  | @own p y W rs ht hm h ih =>
    have e0 : (p :: nxt p y :: W).dropLast.filter (othS s) = (nxt p y :: W).dropLast.filter (othS s) := by
      rw [List.dropLast_cons₂, List.filter_cons_of_neg]
      unfold othS
      rw [decide_eq_true ht]
      exact fun z => nomatch z
    rw [e0]
    rcases ih with ⟨e, e2⟩ | ⟨W1, rs1, y', sp, e1, e2, wk, hw, ht', e3⟩
    · exact .inl ⟨e, e2⟩
    · exact .inr ⟨nxt p y :: W1, rs1, y', sp, e1, Nat.succ_le_succ e2, .own ht hm wk, hw, ht', e3⟩
  | @oth p y W rs hw ht hy h ih =>
    have e0 : (p :: nxt p y :: W).dropLast.filter (othS s) = p :: (nxt p y :: W).dropLast.filter (othS s) := by
      rw [List.dropLast_cons₂, List.filter_cons_of_pos]
      unfold othS
      rw [decide_eq_false ht]
      rfl
    rw [e0]
    rcases ih with ⟨e, e2⟩ | ⟨W1, rs1, y', sp, e1, e2, wk, hw', ht', e3⟩
    · exact .inr ⟨[], [], y, [], by rw [e]; rfl, Nat.zero_le _, .nil p, hw, ht, by rw [e2]; rfl⟩
    · exact .inr ⟨nxt p y :: W1, y :: rs1, y', p :: sp, by rw [e1]; rfl, Nat.succ_le_succ e2, .oth hw ht hy wk, hw', ht', by rw [e3]; rfl⟩
end Fx

set_option Elab.async false
set_option linter.all false
set_option maxRecDepth 100000
set_option maxHeartbeats 4000000
namespace K05
open PySem L2 Fx
def top (i : Nat) : Stmt := PySem.Challenge.pw_foxyard_k05_whole_winner_wins.main.body.getD i (.Pass ⟨0, 0, 0, 0⟩)
abbrev sNums : Stmt := top 7
abbrev sTwice : Stmt := top 8
abbrev sCheck : Stmt := top 9
abbrev sWays : Stmt := top 10
abbrev sPositions : Stmt := top 12
abbrev sOther : Stmt := top 13
abbrev sAhead : Stmt := top 14
abbrev sMoved : Stmt := top 15
abbrev sWinner : Stmt := top 16
abbrev sEnded : Stmt := top 18
abbrev sBehind : Stmt := top 19
abbrev sSide : Stmt := top 20
abbrev sNewly : Stmt := top 21
abbrev sWon : Stmt := top 22
abbrev sMoveTold : Stmt := top 23
abbrev sVerdicts : Stmt := top 24
abbrev sSolved : Stmt := top 25
abbrev sLane : Stmt := top 27
abbrev sPlayed : Stmt := top 28
abbrev sWhole : Stmt := top 30
abbrev sAt : Stmt := top 31
abbrev sBoard : Stmt := top 32
abbrev sWaysOf : Stmt := top 33
abbrev sTurned : Stmt := top 34
abbrev sYardOf : Stmt := top 35
abbrev sWinnerAt : Stmt := top 36
abbrev sNext : Stmt := top 37
abbrev sIsPlace : Stmt := top 38
abbrev sSame : Stmt := top 39
abbrev sIsEntry : Stmt := top 40
abbrev sTableOf : Stmt := top 41
abbrev sGameBy : Stmt := top 42
abbrev sBarred : Stmt := top 43
abbrev sStays : Stmt := top 44
abbrev sStrangers : Stmt := top 45
abbrev sAsWas : Stmt := top 46
abbrev sLaw : Stmt := top 47
structure Txt (mg : Str → Option Value) : Prop where
  n_len : mg "len" = none
  n_set : mg "set" = none
  n_isinstance : mg "isinstance" = none
  n_sorted : mg "sorted" = none
  n_range : mg "range" = none
  n_int : mg "int" = none
  n_bool : mg "bool" = none
  n_str : mg "str" = none
  n_list : mg "list" = none
  n_tuple : mg "tuple" = none
section
variable {P : Program} {w : World} {K : PySem.W.Frag} {mg : Str → Option Value} {base : Heap}
/-! ### numbers_told, holds_twice, check_board (sound boards) -/
def numsD (B : Brd) : List Int := B.lanes.map (·.1) ++ B.lanes.map (·.2) ++ B.coops
def spNums : Sp := fun vs H Q _ => ∃ (G : Hp) (b : V) (B : Brd), vs = [b] ∧ Same G H ∧ At G b (boardD B) ∧ B.lanes.length ≤ 61 ∧ B.coops.length ≤ 100 ∧
  ∀ (G' H' : Hp) (r : V), Ext G H G' H' → At G' r (.list ((numsD B).map .int)) → Q r H'
theorem scNums : FnScope ["board", "firsts", "seconds"] ["board"] (defScope sNums) := ⟨rfl, rfl, rfl, by decide +kernel, rfl, by decide +kernel, by decide +kernel⟩
theorem ok_nums {f : Addr} {fd : FuncData} (F : Fun K "numbers_told" "numbers_told" sNums f fd) (T : Txt mg) : FnOk P w K mg base CX0 1 f fd ["board"] spNums := by
  refine F.ok scNums (fun vs H Q E h => ?_) (fun cdv A outer s H vs Q E hr h => ?_)
  · obtain ⟨G, b, B, rfl, _⟩ := h
    rfl
  · obtain ⟨G, b, B, rfl, hG, hb, hlen, hclen, q⟩ := h
    obtain ⟨p, la, ca, ls, rfl, hp, hla, als, hca⟩ := hb.board
    have el : ls.length = B.lanes.length := by rw [als.length, List.length_map]
    refine ⟨_, (pss_cons (ps_setComp (i := 1) ["lane"] [none] rfl (cs_mk (N₀ := ["board", "firsts", "seconds"]) (sc := defScope sNums) (by decide +kernel)) (pi_K (K := K) rfl (pe_ix (ix_K (K := K) rfl) (pv 0) pe_int (fun _ _ => rfl))) (fun _ _ _ _ _ => (pg_name (i := 0) (show (["lane"] : List Str).Nodup from by decide +kernel) rfl (Or.inl rfl))) (fun _ _ _ _ _ => pts_nil) (fun _ _ _ _ _ => (pe_ix (ix_K (K := K) rfl) (pv 0) pe_int (fun _ _ => rfl))) scNums.nd rfl (Or.inl rfl) rfl)
      (pss_cons (ps_setComp (i := 2) ["lane"] [none] rfl (cs_mk (N₀ := ["board", "firsts", "seconds"]) (sc := defScope sNums) (by decide +kernel)) (pi_K (K := K) rfl (pe_ix (ix_K (K := K) rfl) (pv 0) pe_int (fun _ _ => rfl))) (fun _ _ _ _ _ => (pg_name (i := 0) (show (["lane"] : List Str).Nodup from by decide +kernel) rfl (Or.inl rfl))) (fun _ _ _ _ _ => pts_nil) (fun _ _ _ _ _ => (pe_ix (ix_K (K := K) rfl) (pv 0) pe_int (fun _ _ => rfl))) scNums.nd rfl (Or.inl rfl) rfl)
      (pss_one (ps_ret (pe_op op_cat (pe_op op_cat (pv 1) (pv 2)) (pe_ix (ix_K (K := K) rfl) (pv 0) pe_int (fun _ _ => rfl))))))), ?_⟩
    -- firsts
    refine ⟨_, rfl, .inr (.inl ⟨p, _, 1, .ref la, rfl, rfl, SqT.of (hG _ _ hp), atI_nat (j := 1) rfl, la, rfl, ⟨ls, SqL.of (hG _ _ hla)⟩, fun D hD => ?_⟩)⟩
    have x0 := (Ext.refl hG).lay (o := .lst []) hD
    have w0 := Own.fresh (o := .lst []) (Ext.refl hG) hD
    refine comp_list (xs := ls) (fun i τ H' => ∃ v, τ = [v] ∧ Ext G H G H' ∧ Own H G H' D (.lst (((B.lanes.take i).map (·.1)).map V.int))) ⟨none, rfl, x0, w0⟩ ?_ ?_ ?_
    · rintro i τ H' hi ⟨v, rfl, x, w⟩
      exact SqL.of (x.gh _ _ hla)
    · rintro i x τ H' hx ⟨v, rfl, x1, w1⟩
      obtain ⟨d, hd, ad⟩ := als.get' hx
      rw [List.getElem?_map] at hd
      cases hl : B.lanes[i]? with
      | none => rw [hl] at hd; cases hd
      | some l =>
        rw [hl] at hd
        have hd : laneD l = d := Option.some.inj hd
        subst hd
        obtain ⟨c, rfl, hc⟩ := ad.lane
        have hc' := x1.gh _ _ hc
        refine tt_go ?_
        refine ⟨_, rfl, .inr (.inl ⟨c, _, 0, .int l.1, rfl, rfl, SqT.of hc', atI_nat (j := 0) rfl, _, w1.is, ?_, _, rfl, w1.write x1, ?_⟩)⟩
        · rw [List.length_map, List.length_map, List.length_take]
          exact small1000 (by omega)
        · rw [List.take_add_one, hl, List.map_append, List.map_append]
          exact w1.set
    rintro τ H1 ⟨v, rfl, x1, w1⟩
    rw [el, List.take_length] at w1
    -- seconds
    refine ⟨_, rfl, .inr (.inl ⟨p, _, 1, .ref la, rfl, rfl, SqT.of (x1.gh _ _ hp), atI_nat (j := 1) rfl, la, rfl, ⟨ls, SqL.of (x1.gh _ _ hla)⟩, fun D2 hD2 => ?_⟩)⟩
    have y0 := x1.lay (o := .lst []) hD2
    have u0 := w1.lay (u := .lst []) hD2
    have v0 := Own.fresh (o := .lst []) x1 hD2
    have ne : D ≠ D2 := ne_of_none w1.is hD2
    refine comp_list (xs := ls) (fun i τ H' => ∃ v, τ = [v] ∧ Ext G H G H' ∧ Own H G H' D (.lst ((B.lanes.map (·.1)).map V.int)) ∧ Own H G H' D2 (.lst (((B.lanes.take i).map (·.2)).map V.int))) ⟨none, rfl, y0, u0, v0⟩ ?_ ?_ ?_
    · rintro i τ H' hi ⟨v, rfl, x, w, _⟩
      exact SqL.of (x.gh _ _ hla)
    · rintro i x τ H' hx ⟨v, rfl, x2, w2, z2⟩
      obtain ⟨d, hd, ad⟩ := als.get' hx
      rw [List.getElem?_map] at hd
      cases hl : B.lanes[i]? with
      | none => rw [hl] at hd; cases hd
      | some l =>
        rw [hl] at hd
        have hd : laneD l = d := Option.some.inj hd
        subst hd
        obtain ⟨c, rfl, hc⟩ := ad.lane
        have hc' := x2.gh _ _ hc
        refine tt_go ?_
        refine ⟨_, rfl, .inr (.inl ⟨c, _, 1, .int l.2, rfl, rfl, SqT.of hc', atI_nat (j := 1) rfl, _, z2.is, ?_, _, rfl, z2.write x2, w2.other ne, ?_⟩)⟩
        · rw [List.length_map, List.length_map, List.length_take]
          exact small1000 (by omega)
        · rw [List.take_add_one, hl, List.map_append, List.map_append]
          exact z2.set
    rintro τ H2 ⟨v, rfl, x2, w2, z2⟩
    rw [el, List.take_length] at z2
    -- firsts + seconds + board[2]
    refine ⟨_, rfl, _, rfl, D, D2, _, _, rfl, rfl, w2.is, z2.is, ?_, fun l1 hl1 => ?_⟩
    · simp only [List.length_map]
      exact few (by omega)
    have x3 := x2.lay (o := .lst ((B.lanes.map (·.1)).map V.int ++ (B.lanes.map (·.2)).map V.int)) hl1
    have l3 : upd H2 l1 (.lst ((B.lanes.map (·.1)).map V.int ++ (B.lanes.map (·.2)).map V.int)) l1 = some (.lst ((B.lanes.map (·.1)).map V.int ++ (B.lanes.map (·.2)).map V.int)) := upd_same
    generalize upd H2 l1 (.lst ((B.lanes.map (·.1)).map V.int ++ (B.lanes.map (·.2)).map V.int)) = H3 at x3 l3
    refine ⟨_, rfl, .inr (.inl ⟨p, _, 2, .ref ca, rfl, rfl, SqT.of (x3.gh _ _ hp), atI_nat (j := 2) rfl, l1, ca, _, _, rfl, rfl, l3, x3.gh _ _ hca, ?_, fun l2 hl2 => ?_⟩)⟩
    · simp only [List.length_append, List.length_map]
      exact few (by omega)
    refine q _ _ _ (x3.put hl2) (.lst upd_same ?_)
    have e : (B.lanes.map (·.1)).map V.int ++ (B.lanes.map (·.2)).map V.int ++ B.coops.map V.int = (numsD B).map V.int := by
      unfold numsD
      rw [List.map_append, List.map_append]
    rw [e]
    exact AtAll.ints _
def spTwice : Sp := fun vs H Q _ => ∃ (p : Addr), vs = [.ref p] ∧ ((∃ (xs : List V) (keys : List (List Key)), H p = some (.lst xs) ∧ Paired (KeyAt H) xs keys ∧ keys.Nodup ∧ keys.length ≤ 62) ∨ ∃ ns : List Int, H p = some (.lst (ns.map V.int)) ∧ ns.Nodup ∧ ns.length ≤ 62) ∧ ∀ H', Same H H' → Q (.bl false) H'
theorem scTwice : FnScope ["parts"] ["parts"] (defScope sTwice) := ⟨rfl, rfl, rfl, by decide +kernel, rfl, by decide +kernel, by decide +kernel⟩
theorem ok_twice {f : Addr} {fd : FuncData} (F : Fun K "holds_twice" "holds_twice" sTwice f fd) (T : Txt mg) : FnOk P w K mg base CX0 1 f fd ["parts"] spTwice := by
  refine F.ok scTwice (fun vs H Q E h => ?_) (fun cdv A outer s H vs Q E hr h => ?_)
  · obtain ⟨p, rfl, _⟩ := h
    rfl
  · obtain ⟨p, rfl, hd, q⟩ := h
    refine ⟨_, (pss_one (ps_ret (pe_cmpR op_lt (pe_callB call_lenS rfl T.n_len b_len (pa_cons (pe_callTy (CallR.or2 (call_setT rfl hr) (call_setI rfl)) rfl T.n_set b_set (pa_cons (pv 0) pa_nil)) pa_nil)) (pe_callB (len_K (K := K) rfl) rfl T.n_len b_len (pa_cons (pv 0) pa_nil)) (nomark _)))), ?_⟩
    rcases hd with ⟨xs, keys, hp, pk, hnd, hl⟩ | ⟨ns, hp, hnd, hl⟩
    · refine ⟨_, rfl, .inl ⟨p, xs, keys, rfl, hp, pk, hnd, hl, fun a ha => ?_⟩⟩
      have sm := same_upd (o := .ext (SetN a keys.length)) ha
      refine ⟨a, _, rfl, upd_same, by omega, _, rfl, p, _, rfl, .inl (SqL.of (sm _ _ hp)), _, _, rfl, rfl, ?_⟩
      have e : xs.length = keys.length := Paired.length pk
      have ed : decide ((keys.length : Int) < (xs.length : Int)) = false := decide_eq_false (by omega)
      show Q (.bl (decide ((keys.length : Int) < (xs.length : Int)))) _
      rw [ed]
      exact q _ sm
    · refine ⟨_, rfl, .inr ⟨p, ns, rfl, hp, hnd, hl, fun a ha => ?_⟩⟩
      have sm := same_upd (o := .ext (SetN a ns.length)) ha
      refine ⟨a, _, rfl, upd_same, by omega, _, rfl, p, _, rfl, .inl (SqL.of (sm _ _ hp)), _, _, rfl, rfl, ?_⟩
      have ed : decide ((ns.length : Int) < ((ns.map V.int).length : Int)) = false := decide_eq_false (by rw [List.length_map]; omega)
      show Q (.bl (decide ((ns.length : Int) < ((ns.map V.int).length : Int)))) _
      rw [ed]
      exact q _ sm
theorem keys_of_lanes {H : Hp} : ∀ {ls : List V} {lanes : List (Int × Int)}, AtAll H ls (lanes.map laneD) → Paired (KeyAt H) ls (lanes.map fun l => ([Sum.inl l.1, Sum.inl l.2] : List Key))
  | _, [], .nil => .nil
  | _, l :: r, .cons a t => by
    obtain ⟨c, rfl, hc⟩ := a.lane
    exact .cons ⟨c, rfl, hc⟩ (keys_of_lanes t)
theorem lane_keys_nodup {lanes : List (Int × Int)} (h : lanes.Nodup) : (lanes.map fun l => ([Sum.inl l.1, Sum.inl l.2] : List Key)).Nodup := by
  unfold List.Nodup
  rw [List.pairwise_map]
  refine List.Pairwise.imp ?_ h
  intro a b hab e
  apply hab
  injection e with e1 e2
  injection e2 with e2 _
  injection e1 with e1
  injection e2 with e2
  exact Prod.ext e1 e2
def spCheck : Sp := fun vs H Q _ => ∃ (G : Hp) (b : V) (B : Brd), vs = [b] ∧ Same G H ∧ At G b (boardD B) ∧ Good B ∧ B.coops.length ≤ 7 ∧ B.coops.Nodup ∧ ∀ H', Same H H' → Q .non H'
theorem scCheck : FnScope ["board", "count", "number"] ["board"] (defScope sCheck) := ⟨rfl, rfl, rfl, by decide +kernel, rfl, by decide +kernel, by decide +kernel⟩
theorem ok_check {f : Addr} {fd : FuncData} (F : Fun K "check_board" "check_board" sCheck f fd) (T : Txt mg) (C_numbers_told : Cal P w K mg base 1 "numbers_told" ["board"] spNums) (C_holds_twice : Cal P w K mg base 1 "holds_twice" ["parts"] spTwice) :
    FnOk P w K mg base CX0 2 f fd ["board"] spCheck := by
  refine F.ok scCheck (fun vs H Q E h => ?_) (fun cdv A outer s H vs Q E hr h => ?_)
  · obtain ⟨G, b, B, rfl, _⟩ := h
    rfl
  · obtain ⟨G, b, B, rfl, hG, hb, g, hclen, hcn, q⟩ := h
    have hr_ : ∀ {j : Nat}, j ≤ 1 → Room j _ := fun h => hr.mono h
    obtain ⟨p, la, ca, ls, rfl, hp, hla, als, hca⟩ := hb.board
    refine ⟨_, (pss_cons (ps_set (i := 1) scCheck.nd rfl (Or.inl rfl) (pe_ix (ix_K (K := K) rfl) (pv 0) pe_int (fun _ _ => rfl)))
      (pss_cons (ps_if (pt_cmpR op_lt (pv 1) pe_int (nomark _))
       (pss_one ps_never)
       pss_nil)
      (pss_cons (ps_for PassesOwn.never rfl (pi_K (K := K) rfl (pe_call C_numbers_told.ok (hr_ (by decide)) rfl C_numbers_told.mg C_numbers_told.kp C_numbers_told.b .nil pass0 (pa_cons (pv 0) pa_nil))) (pg_name (i := 2) scCheck.nd rfl (Or.inl rfl))
       (pss_one (ps_if (PW.pt (pw_or (pt_cmpR op_lt (pv 2) pe_int (nomark _)) (pw_or1 (pt_cmpR op_ge (pv 2) (pv 1) (nomark _)))))
         (pss_one ps_never)
         pss_nil)))
      (pss_cons (ps_if (pt_val (pe_call C_holds_twice.ok (hr_ (by decide)) rfl C_holds_twice.mg C_holds_twice.kp C_holds_twice.b .nil pass0 (pa_cons (pe_ix (ix_K (K := K) rfl) (pv 0) pe_int (fun _ _ => rfl)) pa_nil)))
       (pss_one ps_never)
       pss_nil)
      (pss_one (ps_if (pt_val (pe_call C_holds_twice.ok (hr_ (by decide)) rfl C_holds_twice.mg C_holds_twice.kp C_holds_twice.b .nil pass0 (pa_cons (pe_ix (ix_K (K := K) rfl) (pv 0) pe_int (fun _ _ => rfl)) pa_nil)))
       (pss_one ps_never)
       pss_nil)))))), ?_⟩
    refine ⟨_, rfl, .inr (.inl ⟨p, _, 0, .int B.n, rfl, rfl, SqT.of (hG _ _ hp), atI_nat (j := 0) rfl, ?_⟩)⟩
    refine ⟨_, rfl, _, _, rfl, rfl, _, rfl, ?_⟩
    rw [show decide ((B.n : Int) < 1) = false from decide_eq_false (by have := g.pos; omega)]
    refine iteF ?_
    -- the loop
    refine ⟨_, rfl, G, .ref p, B, rfl, hG, hb, g.len, by omega, fun G1 H1 r x1 ar => ?_⟩
    obtain ⟨na, xs, rfl, hna, anx⟩ : ∃ na xs, r = .ref na ∧ G1 na = some (.lst xs) ∧ AtAll G1 xs ((numsD B).map PyData.int) := by
      cases ar with
      | lst e t => exact ⟨_, _, rfl, e, t⟩
    have exs := anx.ints_of
    subst exs
    refine ⟨na, rfl, ⟨_, SqL.of (x1.gh _ _ hna)⟩, ?_⟩
    refine for_list (xs := (numsD B).map V.int) (fun i σ H' => ∃ v, σ = [some (.ref p), some (.int (B.n : Int)), v] ∧ H' = H1) ⟨none, rfl, rfl⟩ ?_ ?_ ?_
    · rintro i σ H' hi ⟨v, rfl, rfl⟩
      exact SqL.of (x1.gh _ _ hna)
    · rintro i x σ H' hx ⟨v, rfl, rfl⟩
      rw [List.getElem?_map] at hx
      cases e : (numsD B)[i]? with
      | none => rw [e] at hx; cases hx
      | some z =>
        rw [e] at hx
        have hx : V.int z = x := Option.some.inj hx
        subst hx
        have hz : 0 ≤ z ∧ z < (B.n : Int) := by
          have hm := List.mem_of_getElem? e
          unfold numsD at hm
          rcases List.mem_append.mp hm with hm | hm
          · rcases List.mem_append.mp hm with hm | hm
            · obtain ⟨l, hl, rfl⟩ := List.mem_map.mp hm
              exact (g.rng l hl).1
            · obtain ⟨l, hl, rfl⟩ := List.mem_map.mp hm
              exact (g.rng l hl).2
          · exact g.cin z hm
        refine ⟨_, rfl, _, _, rfl, rfl, _, rfl, ?_⟩
        rw [show decide (z < 0) = false from decide_eq_false (by omega)]
        refine iteF ⟨_, rfl, _, rfl, _, _, rfl, rfl, _, rfl, ?_⟩
        rw [show decide ((B.n : Int) ≤ z) = false from decide_eq_false (by omega)]
        exact iteF ⟨_, rfl, rfl⟩
    rintro σ H' ⟨v, rfl, rfl⟩
    -- holds_twice(board[1])
    have als1 := (als.mono x1.gg).mono x1.gh
    refine ⟨_, rfl, .inr (.inl ⟨p, _, 1, .ref la, rfl, rfl, SqT.of (x1.gh _ _ (x1.gg _ _ hp)), atI_nat (j := 1) rfl, la, rfl, .inl ⟨ls, _, x1.gh _ _ (x1.gg _ _ hla), keys_of_lanes als1, lane_keys_nodup g.dup, ?_⟩, fun H2 s2 => ⟨_, rfl, iteF ?_⟩⟩)⟩
    · rw [List.length_map]
      have := g.len
      omega
    refine ⟨_, rfl, .inr (.inl ⟨p, _, 2, .ref ca, rfl, rfl, SqT.of (s2 _ _ (x1.gh _ _ (x1.gg _ _ hp))), atI_nat (j := 2) rfl, ca, rfl, .inr ⟨B.coops, s2 _ _ (x1.gh _ _ (x1.gg _ _ hca)), hcn, by omega⟩, fun H3 s3 => ⟨_, rfl, iteF ?_⟩⟩)⟩
    exact q _ (x1.hh.trans (s2.trans s3))

def spWays : Sp := fun vs H Q _ => ∃ (G : Hp) (b : V) (B : Brd) (y : Int), vs = [b, .int y] ∧ Same G H ∧ At G b (boardD B) ∧ B.lanes.length ≤ 61 ∧
  ∀ (G' H' : Hp) (r : V) (ms : List Int), Ext G H G' H' → ms.Perm (waysL B.lanes y) → ms.Pairwise (· ≤ ·) → At G' r (.list (ms.map .int)) → Q r H'
/-! ### ways_from -/
theorem scWays : FnScope ["board", "yard"] ["board", "yard"] (defScope sWays) := ⟨rfl, rfl, rfl, by decide +kernel, rfl, by decide +kernel, by decide +kernel⟩
theorem ok_ways {f : Addr} {fd : FuncData} (F : Fun K "ways_from" "ways_from" sWays f fd) (T : Txt mg) : FnOk P w K mg base CX0 1 f fd ["board", "yard"] spWays := by
  refine F.ok scWays (fun vs H Q E h => ?_) (fun cdv A outer s H vs Q E hr h => ?_)
  · obtain ⟨G, b, B, y, rfl, _⟩ := h
    rfl
  · obtain ⟨G, b, B, y, rfl, hG, hb, hlen, q⟩ := h
    obtain ⟨p, la, ca, ls, rfl, hp, hla, als, hca⟩ := hb.board
    refine ⟨_, (pss_one (ps_ret (pe_callB call_sorted rfl T.n_sorted b_sorted (pa_cons (pe_comp ["lane", "yard"] [none, some 1] rfl (cs_mk (N₀ := ["board", "yard"]) (sc := defScope sWays) (by decide +kernel)) (pi_K (K := K) rfl (pe_ix (ix_K (K := K) rfl) (pv 0) pe_int (fun _ _ => rfl))) (fun _ _ _ _ _ => (pg_name (i := 0) (show (["lane", "yard"] : List Str).Nodup from by decide +kernel) rfl (Or.inl rfl))) (fun _ _ _ _ _ => (pts_one (pt_cmpR op_eq (pe_ix (ix_K (K := K) rfl) (pv 0) pe_int (fun _ _ => rfl)) (pv 1) (nomark _)))) (fun _ _ _ _ _ => (pe_ix (ix_K (K := K) rfl) (pv 0) pe_int (fun _ _ => rfl)))) pa_nil)))), ?_⟩
    refine ⟨_, rfl, .inr (.inl ⟨p, _, 1, .ref la, rfl, rfl, SqT.of (hG _ _ hp), atI_nat (j := 1) rfl, la, rfl, ⟨ls, SqL.of (hG _ _ hla)⟩, fun D hD => ?_⟩)⟩
    have x0 := (Ext.refl hG).lay (o := .lst []) hD
    have w0 := Own.fresh (o := .lst []) (Ext.refl hG) hD
    have el : ls.length = B.lanes.length := by rw [als.length, List.length_map]
    refine comp_list (xs := ls) (fun i τ H' => ∃ v, τ = [v, some (.int y)] ∧ Ext G H G H' ∧ Own H G H' D (.lst ((waysL (B.lanes.take i) y).map V.int))) ⟨none, rfl, x0, w0⟩ ?_ ?_ ?_
    · rintro i τ H' hi ⟨v, rfl, x, w⟩
      exact SqL.of (x.gh _ _ hla)
    · rintro i x τ H' hx ⟨v, rfl, x1, w1⟩
      obtain ⟨d, hd, ad⟩ := als.get' hx
      rw [List.getElem?_map] at hd
      cases hl : B.lanes[i]? with
      | none => rw [hl] at hd; cases hd
      | some l =>
        rw [hl] at hd
        have hd : laneD l = d := Option.some.inj hd
        subst hd
        obtain ⟨c, rfl, hc⟩ := ad.lane
        have hc' := x1.gh _ _ hc
        refine ⟨_, rfl, .inr (.inl ⟨c, _, 0, .int l.1, rfl, rfl, SqT.of hc', atI_nat (j := 0) rfl, _, rfl, rfl, _, rfl, ?_⟩)⟩
        rw [decV]
        have wt := waysL_take (y := y) hl
        refine ite2 (fun e => ?_) (fun e => ?_)
        · have e : l.1 = y := of_decide_eq_true e
          refine ⟨_, rfl, .inr (.inl ⟨c, _, 1, .int l.2, rfl, rfl, SqT.of hc', atI_nat (j := 1) rfl, _, w1.is, ?_, _, rfl, w1.write x1, ?_⟩)⟩
          · rw [List.length_map]
            have := waysL_len (B.lanes.take i) y
            rw [List.length_take] at this
            exact small1000 (by omega)
          · rw [wt, if_pos e, List.map_append]
            exact w1.set
        · have e : ¬ l.1 = y := fun z => e (decide_eq_true z)
          refine ⟨_, rfl, x1, ?_⟩
          rw [wt, if_neg e, List.append_nil]
          exact w1
    · rintro τ H' ⟨v, rfl, x1, w1⟩
      rw [el, List.take_length] at w1
      refine ⟨D, waysL B.lanes y, rfl, w1.is, ?_, fun l ms hl hp hs => ?_⟩
      · have := waysL_len B.lanes y
        omega
      · exact q _ _ _ ms (x1.put hl) hp hs (.lst upd_same (AtAll.ints ms))

/-! ### other_side, lanes_ahead, winner -/
def spOther : Sp := fun vs H Q _ => ∃ t : Bool, vs = [.str (sd t)] ∧ Q (.str (sd (!t))) H
theorem scOther : FnScope ["side"] ["side"] (defScope sOther) := ⟨rfl, rfl, rfl, by decide +kernel, rfl, by decide +kernel, by decide +kernel⟩
theorem ok_other {f : Addr} {fd : FuncData} (F : Fun K "other_side" "other_side" sOther f fd) (T : Txt mg) : FnOk P w K mg base CX0 1 f fd ["side"] spOther := by
  refine F.ok scOther (fun vs H Q E h => ?_) (fun cdv A outer s H vs Q E hr h => ?_)
  · obtain ⟨t, rfl, _⟩ := h
    rfl
  · obtain ⟨t, rfl, q⟩ := h
    refine ⟨_, (pss_one (ps_ret (pe_ifExp (pt_cmpR op_eq (pv 0) pe_str (nomark _)) pe_str pe_str))), ?_⟩
    refine ⟨_, rfl, rfl, _, rfl, ?_⟩
    rw [sd_fox]
    cases t
    · exact iteF q
    · exact iteT q
def spAhead : Sp := fun vs H Q _ => ∃ (G : Hp) (b v : V) (B : Brd) (p : Plc), vs = [b, v] ∧ Same G H ∧ At G b (boardD B) ∧ At G v (posD p) ∧ B.lanes.length ≤ 61 ∧
  ∀ (G' H' : Hp) (r : V), Ext G H G' H' → At G' r (.list ((waysS B p).map .int)) → Q r H'
theorem scAhead : FnScope ["board", "position"] ["board", "position"] (defScope sAhead) := ⟨rfl, rfl, rfl, by decide +kernel, rfl, by decide +kernel, by decide +kernel⟩
theorem ok_ahead {f : Addr} {fd : FuncData} (F : Fun K "lanes_ahead" "lanes_ahead" sAhead f fd) (T : Txt mg) (C_ways_from : Cal P w K mg base 1 "ways_from" ["board", "yard"] spWays) :
    FnOk P w K mg base CX0 2 f fd ["board", "position"] spAhead := by
  refine F.ok scAhead (fun vs H Q E h => ?_) (fun cdv A outer s H vs Q E hr h => ?_)
  · obtain ⟨G, b, v, B, p, rfl, _⟩ := h
    rfl
  · obtain ⟨G, b, v, B, p, rfl, hG, hb, hv, hlen, q⟩ := h
    have hr_ : ∀ {j : Nat}, j ≤ 1 → Room j _ := fun h => hr.mono h
    obtain ⟨a, rfl, ha⟩ := hv.pos
    have ha1 := hG _ _ ha
    refine ⟨_, (pss_one (ps_ret (pe_call C_ways_from.ok (hr_ (by decide)) rfl C_ways_from.mg C_ways_from.kp C_ways_from.b .nil pass0 (pa_cons (pv 0) (pa_cons (pe_ifExp (pt_cmpR op_eq (pe_ix (ix_K (K := K) rfl) (pv 1) pe_int (fun _ _ => rfl)) pe_str (nomark _)) (pe_ix (ix_K (K := K) rfl) (pv 1) pe_int (fun _ _ => rfl)) (pe_ix (ix_K (K := K) rfl) (pv 1) pe_int (fun _ _ => rfl))) pa_nil))))), ?_⟩
    refine ⟨_, rfl, _, rfl, .inr (.inl ⟨a, _, 2, .str (sd p.t), rfl, rfl, SqT.of ha1, atI_nat (j := 2) rfl, rfl, _, rfl, ?_⟩)⟩
    rw [sd_fox]
    refine ite2 (fun e => ?_) (fun e => ?_)
    · refine ⟨_, rfl, .inr (.inl ⟨a, _, 0, .int p.f, rfl, rfl, SqT.of ha1, atI_nat (j := 0) rfl, G, b, B, p.f, rfl, hG, hb, hlen, fun G' H' r ms x hp hs ar => ?_⟩)⟩
      have ey : yardOf p = p.f := if_pos e
      have em : ms = waysS B p := by
        have := srt_of hp hs
        rw [this]
        unfold waysS waysB
        rw [ey]
      rw [em] at ar
      exact q _ _ _ x ar
    · refine ⟨_, rfl, .inr (.inl ⟨a, _, 1, .int p.h, rfl, rfl, SqT.of ha1, atI_nat (j := 1) rfl, G, b, B, p.h, rfl, hG, hb, hlen, fun G' H' r ms x hp hs ar => ?_⟩)⟩
      have ey : yardOf p = p.h := if_neg e
      have em : ms = waysS B p := by
        have := srt_of hp hs
        rw [this]
        unfold waysS waysB
        rw [ey]
      rw [em] at ar
      exact q _ _ _ x ar
def spWinner : Sp := fun vs H Q _ => ∃ (G : Hp) (b v : V) (B : Brd) (p : Plc), vs = [b, v] ∧ Same G H ∧ At G b (boardD B) ∧ At G v (posD p) ∧ B.lanes.length ≤ 61 ∧ ∀ H', Same H H' → Q (wV (winAt B p)) H'
theorem scWinner : FnScope ["board", "position"] ["board", "position"] (defScope sWinner) := ⟨rfl, rfl, rfl, by decide +kernel, rfl, by decide +kernel, by decide +kernel⟩
theorem ok_winner {f : Addr} {fd : FuncData} (F : Fun K "winner" "winner" sWinner f fd) (T : Txt mg) (C_lanes_ahead : Cal P w K mg base 2 "lanes_ahead" ["board", "position"] spAhead)
    (C_other_side : Cal P w K mg base 1 "other_side" ["side"] spOther) : FnOk P w K mg base CX0 3 f fd ["board", "position"] spWinner := by
  refine F.ok scWinner (fun vs H Q E h => ?_) (fun cdv A outer s H vs Q E hr h => ?_)
  · obtain ⟨G, b, v, B, p, rfl, _⟩ := h
    rfl
  · obtain ⟨G, b, v, B, p, rfl, hG, hb, hv, hlen, q⟩ := h
    have hr_ : ∀ {j : Nat}, j ≤ 2 → Room j _ := fun h => hr.mono h
    obtain ⟨c, la, ca, ls, rfl, hc, hla, als, hca⟩ := hb.board
    obtain ⟨a, rfl, ha⟩ := hv.pos
    have ha1 := hG _ _ ha
    refine ⟨_, (pss_cons (ps_if (pt_cmpR op_eq (pe_ix (ix_K (K := K) rfl) (pv 1) pe_int (fun _ _ => rfl)) (pe_ix (ix_K (K := K) rfl) (pv 1) pe_int (fun _ _ => rfl)) (nomark _))
       (pss_one (ps_ret pe_str))
       pss_nil)
      (pss_cons (ps_if (pt_cmpR (op_inD hr) (pe_ix (ix_K (K := K) rfl) (pv 1) pe_int (fun _ _ => rfl)) (pe_ix (ix_K (K := K) rfl) (pv 0) pe_int (fun _ _ => rfl)) (by with_unfolding_all rfl))
       (pss_one (ps_ret pe_str))
       pss_nil)
      (pss_cons (ps_if (pt_not (pt_list (K := K) rfl (pe_call C_lanes_ahead.ok (hr_ (by decide)) rfl C_lanes_ahead.mg C_lanes_ahead.kp C_lanes_ahead.b .nil pass0 (pa_cons (pv 0) (pa_cons (pv 1) pa_nil)))))
       (pss_one (ps_ret (pe_call C_other_side.ok (hr_ (by decide)) rfl C_other_side.mg C_other_side.kp C_other_side.b .nil pass0 (pa_cons (pe_ix (ix_K (K := K) rfl) (pv 1) pe_int (fun _ _ => rfl)) pa_nil))))
       pss_nil)
      (pss_one (ps_ret pe_non))))), ?_⟩
    refine ⟨_, rfl, .inr (.inl ⟨a, _, 0, .int p.f, rfl, rfl, SqT.of ha1, atI_nat (j := 0) rfl, _, rfl, .inr (.inl ⟨a, _, 1, .int p.h, rfl, rfl, SqT.of ha1, atI_nat (j := 1) rfl, rfl, _, rfl, ?_⟩)⟩)⟩
    rw [decV]
    refine ite2 (fun e => ?_) (fun e => ?_)
    · have e : p.f = p.h := of_decide_eq_true e
      have ew : winAt B p = some true := by unfold winAt; rw [if_pos e]
      rw [ew] at q
      exact q H (Same.refl _)
    have e : ¬ p.f = p.h := fun z => e (decide_eq_true z)
    -- in coops
    refine ⟨_, rfl, .inr (.inl ⟨a, _, 1, .int p.h, rfl, rfl, SqT.of ha1, atI_nat (j := 1) rfl, _, rfl, .inr (.inl ⟨c, _, 2, .ref ca, rfl, rfl, SqT.of (hG _ _ hc), atI_nat (j := 2) rfl, _, _, .int p.h, .inl (.lst (hG _ _ hca) (AtAll.ints B.coops)), by show 0 ≤ 60; decide, _, rfl, ?_⟩)⟩)⟩
    rw [if_neg Bool.false_ne_true, any_int]
    refine ite2 (fun e2 => ?_) (fun e2 => ?_)
    · have e2 : p.h ∈ B.coops := of_decide_eq_true e2
      have ew : winAt B p = some false := by unfold winAt; rw [if_neg e, if_pos e2]
      rw [ew] at q
      exact q H (Same.refl _)
    have e2 : ¬ p.h ∈ B.coops := fun z => e2 (decide_eq_true z)
    -- no way
    refine ⟨_, rfl, _, rfl, G, .ref c, .ref a, B, p, rfl, hG, hb, hv, hlen, fun G1 H1 r x1 ar => ?_⟩
    cases ar with
    | lst er tr =>
    rename_i ra xs
    have exs := tr.ints_of
    subst exs
    refine ⟨ra, _, rfl, SqL.of (x1.gh _ _ er), ?_⟩
    have ee : (!(!(((waysS B p).map V.int).isEmpty))) = decide (waysB B p = []) := by
      have hl := srt_len (waysB B p)
      have hl : (waysS B p).length = (waysB B p).length := hl
      cases e1 : waysS B p with
      | nil =>
        rw [e1] at hl
        rw [decide_eq_true (List.eq_nil_of_length_eq_zero hl.symm)]
        rfl
      | cons z r =>
        rw [e1] at hl
        rw [decide_eq_false (fun y => by rw [y] at hl; simp at hl)]
        rfl
    show if (!(!(((waysS B p).map V.int).isEmpty))) = true then _ else _
    rw [ee]
    refine ite2 (fun e3 => ?_) (fun e3 => ?_)
    · have e3 : waysB B p = [] := of_decide_eq_true e3
      have ew : winAt B p = some (!p.t) := by unfold winAt; rw [if_neg e, if_neg e2, if_pos e3]
      rw [ew] at q
      exact ⟨_, rfl, .inr (.inl ⟨a, _, 2, .str (sd p.t), rfl, rfl, SqT.of (x1.hh _ _ ha1), atI_nat (j := 2) rfl, p.t, rfl, q _ x1.hh⟩)⟩
    · have e3 : ¬ waysB B p = [] := fun z => e3 (decide_eq_true z)
      have ew : winAt B p = none := by unfold winAt; rw [if_neg e, if_neg e2, if_neg e3]
      rw [ew] at q
      exact q _ x1.hh

/-! ### moved -/
def spMoved : Sp := fun vs H Q _ => ∃ (G : Hp) (v : V) (p : Plc) (y : Int), vs = [v, .int y] ∧ Same G H ∧ At G v (posD p) ∧ ∀ (G' H' : Hp) (r : V), Ext G H G' H' → At G' r (posD (nxt p y)) → Q r H'
theorem scMoved : FnScope ["position", "yard"] ["position", "yard"] (defScope sMoved) := ⟨rfl, rfl, rfl, by decide +kernel, rfl, by decide +kernel, by decide +kernel⟩
theorem ok_moved {f : Addr} {fd : FuncData} (F : Fun K "moved" "moved" sMoved f fd) (T : Txt mg) : FnOk P w K mg base CX0 1 f fd ["position", "yard"] spMoved := by
  refine F.ok scMoved (fun vs H Q E h => ?_) (fun cdv A outer s H vs Q E hr h => ?_)
  · obtain ⟨G, v, p, y, rfl, _⟩ := h
    rfl
  · obtain ⟨G, v, p, y, rfl, hG, hv, q⟩ := h
    obtain ⟨a, rfl, ha⟩ := hv.pos
    have ha1 := hG _ _ ha
    refine ⟨_, (pss_cons (ps_if (pt_cmpR op_eq (pe_ix (ix_K (K := K) rfl) (pv 0) pe_int (fun _ _ => rfl)) pe_str (nomark _))
       (pss_one (ps_ret (pe_tup (pa_cons (pv 1) (pa_cons (pe_ix (ix_K (K := K) rfl) (pv 0) pe_int (fun _ _ => rfl)) (pa_cons pe_str pa_nil))))))
       pss_nil)
      (pss_one (ps_ret (pe_tup (pa_cons (pe_ix (ix_K (K := K) rfl) (pv 0) pe_int (fun _ _ => rfl)) (pa_cons (pv 1) (pa_cons pe_str pa_nil))))))), ?_⟩
    refine ⟨_, rfl, .inr (.inl ⟨a, _, 2, .str (sd p.t), rfl, rfl, SqT.of ha1, atI_nat (j := 2) rfl, rfl, _, rfl, ?_⟩)⟩
    rw [sd_fox]
    refine ite2 (fun e => ?_) (fun e => ?_)
    · have en : nxt p y = ⟨y, p.h, false⟩ := by unfold nxt; rw [if_pos e]
      rw [en] at q
      refine ⟨_, rfl, _, rfl, .inr (.inl ⟨a, _, 1, .int p.h, rfl, rfl, SqT.of ha1, atI_nat (j := 1) rfl, few (by show 3 ≤ 1000; decide), fun c hc => ?_⟩)⟩
      exact q _ _ _ ((Ext.refl hG).put hc) (pos_at (p := ⟨y, p.h, false⟩) upd_same)
    · have en : nxt p y = ⟨p.f, y, true⟩ := by unfold nxt; rw [if_neg e]
      rw [en] at q
      refine ⟨_, rfl, .inr (.inl ⟨a, _, 0, .int p.f, rfl, rfl, SqT.of ha1, atI_nat (j := 0) rfl, _, rfl, few (by show 3 ≤ 1000; decide), fun c hc => ?_⟩)⟩
      exact q _ _ _ ((Ext.refl hG).put hc) (pos_at (p := ⟨p.f, y, true⟩) upd_same)
/-! ### positions_of -/
def spPositions : Sp := fun vs H Q _ => ∃ (G : Hp) (b : V) (B : Brd), vs = [b] ∧ Same G H ∧ At G b (boardD B) ∧ Good B ∧
  ∀ (G' H' : Hp) (r : V), Ext G H G' H' → At G' r (.list ((allPos B.n).map posD)) → Q r H'
theorem scPositions : FnScope ["board", "found", "fox", "hen"] ["board"] (defScope sPositions) := ⟨rfl, rfl, rfl, by decide +kernel, rfl, by decide +kernel, by decide +kernel⟩
structure PosAt (B : Brd) (G H G1 H1 : Hp) (fa : Addr) (k : Nat) : Prop where
  x : Ext G H G1 H1
  l : ∃ xs, Own H G1 H1 fa (.lst xs) ∧ AtAll G1 xs (((allPos B.n).take k).map posD)
theorem ok_positions {f : Addr} {fd : FuncData} (F : Fun K "positions_of" "positions_of" sPositions f fd) (T : Txt mg) : FnOk P w K mg base CX0 1 f fd ["board"] spPositions := by
  refine F.ok scPositions (fun vs H Q E h => ?_) (fun cdv A outer s H vs Q E hr h => ?_)
  · obtain ⟨G, b, B, rfl, _⟩ := h
    rfl
  · obtain ⟨G, b, B, rfl, hG, hb, g, q⟩ := h
    obtain ⟨p, la, ca, ls, rfl, hp, hla, als, hca⟩ := hb.board
    have hn1 := g.pos
    have hn7 := g.few
    have f98 := few98 g
    refine ⟨_, (pss_cons (ps_set (i := 1) scPositions.nd rfl (Or.inl rfl) (pe_lst pa_nil))
      (pss_cons (ps_for PassesOwn.never rfl (pi_range1 rfl T.n_range (pa_cons (pe_ix (ix_K (K := K) rfl) (pv 0) pe_int (fun _ _ => rfl)) pa_nil)) (pg_name (i := 2) scPositions.nd rfl (Or.inl rfl))
       (pss_one (ps_for PassesOwn.never rfl (pi_range1 rfl T.n_range (pa_cons (pe_ix (ix_K (K := K) rfl) (pv 0) pe_int (fun _ _ => rfl)) pa_nil)) (pg_name (i := 3) scPositions.nd rfl (Or.inl rfl))
         (pss_cons (ps_expr (append_K (K := K) rfl (pv 1) (pa_cons (pe_tup (pa_cons (pv 2) (pa_cons (pv 3) (pa_cons pe_str pa_nil)))) pa_nil)))
          (pss_one (ps_expr (append_K (K := K) rfl (pv 1) (pa_cons (pe_tup (pa_cons (pv 2) (pa_cons (pv 3) (pa_cons pe_str pa_nil)))) pa_nil))))))))
      (pss_one (ps_ret (pv 1))))), ?_⟩
    refine ⟨by decide, fun fa hfa => ?_⟩
    have x1 := (Ext.refl hG).lay (o := .lst []) hfa
    have w1 := Own.fresh (o := .lst []) (Ext.refl hG) hfa
    generalize upd H fa (.lst []) = H1 at x1 w1
    refine ⟨_, rfl, .inr (.inl ⟨p, _, 0, .int B.n, rfl, rfl, SqT.of (x1.gh _ _ hp), atI_nat (j := 0) rfl, (B.n : Int), rfl, by omega, by omega, ?_⟩)⟩
    rw [Int.toNat_natCast]
    refine for_range (lo := 0) (n := B.n) (fun i σ H' => ∃ (v2 v3 : Option V) (G1 : Hp), σ = [some (.ref p), some (.ref fa), v2, v3] ∧ PosAt B G H G1 H' fa (i * (2 * B.n))) ⟨none, none, G, rfl, x1, [], w1, by rw [Nat.zero_mul]; exact .nil⟩ ?_ ?_
    · rintro i σ H2 hi ⟨v2, v3, G1, rfl, x2, xs, w2, ax⟩
      have ei : ((0 : Int) + (i : Int)) = (i : Int) := by omega
      show _
      rw [ei]
      refine ⟨_, rfl, .inr (.inl ⟨p, _, 0, .int B.n, rfl, rfl, SqT.of (x2.gh _ _ (x2.gg _ _ hp)), atI_nat (j := 0) rfl, (B.n : Int), rfl, by omega, by omega, ?_⟩)⟩
      rw [Int.toNat_natCast]
      refine for_range (lo := 0) (n := B.n) (fun j σ H' => ∃ (v3 : Option V) (G1 : Hp), σ = [some (.ref p), some (.ref fa), some (.int (i : Int)), v3] ∧ PosAt B G H G1 H' fa (i * (2 * B.n) + 2 * j)) ⟨_, G1, rfl, x2, xs, w2, by rw [Nat.mul_zero, Nat.add_zero]; exact ax⟩ ?_ ?_
      · rintro j σ H3 hj ⟨v3', G3, rfl, x3, ys, w3, ay⟩
        have ej : ((0 : Int) + (j : Int)) = (j : Int) := by omega
        show _
        rw [ej]
        obtain ⟨hlt, ea, eb⟩ := pos_two hi hj
        have hk : i * (2 * B.n) + 2 * j < 2 * B.n * B.n := by omega
        have hlen : ys.length ≤ 98 := by
          rw [ay.length, List.length_map, List.length_take]
          omega
        -- the fox's turn
        refine ⟨_, rfl, tyL w3.is, _, rfl, _, rfl, few (by show 3 ≤ 1000; decide), fun c hc => ?_⟩
        have x4 := x3.put (o := .tup [.int (i : Int), .int (j : Int), .str "fox"]) hc
        have w4 := w3.put (u := .tup [.int (i : Int), .int (j : Int), .str "fox"]) hc
        have s4 : Same G3 (upd G3 c (.tup [.int (i : Int), .int (j : Int), .str "fox"])) := same_upd (x3.gh.free hc)
        have a4 : At (upd G3 c (.tup [.int (i : Int), .int (j : Int), .str "fox"])) (.ref c) (posD ⟨i, j, true⟩) := pos_at (p := ⟨i, j, true⟩) upd_same
        refine ⟨fa, ys, .ref c, rfl, rfl, w4.is, small1000 (by omega), ?_⟩
        have x5 := w4.write (u := .lst (ys ++ [.ref c])) x4
        have w5 := w4.set (u := .lst (ys ++ [.ref c]))
        have ay5 : AtAll (upd G3 c (.tup [.int (i : Int), .int (j : Int), .str "fox"])) (ys ++ [.ref c]) (((allPos B.n).take (i * (2 * B.n) + 2 * j + 1)).map posD) := by
          rw [allPos_take hk, ea, List.map_append]
          exact (ay.mono s4).append (.one a4)
        generalize upd (upd H3 c (.tup [.int (i : Int), .int (j : Int), .str "fox"])) fa (.lst (ys ++ [.ref c])) = H5 at x5 w5
        generalize upd G3 c (.tup [.int (i : Int), .int (j : Int), .str "fox"]) = G5 at x5 w5 ay5
        -- the hen's turn
        refine ⟨_, rfl, tyL w5.is, _, rfl, _, rfl, few (by show 3 ≤ 1000; decide), fun d hd => ?_⟩
        have x6 := x5.put (o := .tup [.int (i : Int), .int (j : Int), .str "hen"]) hd
        have w6 := w5.put (u := .tup [.int (i : Int), .int (j : Int), .str "hen"]) hd
        have s6 : Same G5 (upd G5 d (.tup [.int (i : Int), .int (j : Int), .str "hen"])) := same_upd (x5.gh.free hd)
        have a6 : At (upd G5 d (.tup [.int (i : Int), .int (j : Int), .str "hen"])) (.ref d) (posD ⟨i, j, false⟩) := pos_at (p := ⟨i, j, false⟩) upd_same
        refine ⟨fa, ys ++ [.ref c], .ref d, rfl, rfl, w6.is, small1000 (by rw [List.length_append]; show ys.length + 1 ≤ 1000; omega), ?_⟩
        refine ⟨_, _, rfl, w6.write x6, _, w6.set, ?_⟩
        rw [show i * (2 * B.n) + 2 * (j + 1) = i * (2 * B.n) + 2 * j + 1 + 1 by omega, allPos_take hlt, eb, List.map_append]
        exact (ay5.mono s6).append (.one a6)
      · rintro σ H3 ⟨v3', G3, rfl, P3⟩
        refine ⟨_, _, G3, rfl, ?_⟩
        rw [show (i + 1) * (2 * B.n) = i * (2 * B.n) + 2 * B.n by rw [Nat.succ_mul]]
        exact P3
    · rintro σ H3 ⟨v2, v3, G3, rfl, x3, ys, w3, ay⟩
      rw [show B.n * (2 * B.n) = (allPos B.n).length by rw [allPos_len, Nat.mul_comm], List.take_length] at ay
      exact ⟨_, rfl, q _ _ _ (w3.join x3) (.lst upd_same (ay.mono (same_upd w3.apart)))⟩

/-! ### ended_positions -/
def spEnded : Sp := fun vs H Q _ => ∃ (G : Hp) (b : V) (B : Brd), vs = [b] ∧ Same G H ∧ At G b (boardD B) ∧ Good B ∧
  ∀ (G' H' : Hp) (ka : Addr) (kvs : List (List Key × V)) (ps : List Plc), Ext G H G' H' → Own H G' H' ka (.dT kvs) → Tells G' kvs ps (kQ B 0) → Q (.ref ka) H'
theorem scEnded : FnScope ["board", "ended", "position", "side"] ["board"] (defScope sEnded) := ⟨rfl, rfl, rfl, by decide +kernel, rfl, by decide +kernel, by decide +kernel⟩
structure EndAt (B : Brd) (G H G1 H1 : Hp) (ka : Addr) (i : Nat) : Prop where
  x : Ext G H G1 H1
  k : ∃ kvs ps, Own H G1 H1 ka (.dT kvs) ∧ Tells G1 kvs ps (fun q => if q ∈ (allPos B.n).take i then Kn (gameOf B) 0 q else none)
theorem ok_ended {f : Addr} {fd : FuncData} (F : Fun K "ended_positions" "ended_positions" sEnded f fd) (T : Txt mg) (C_positions_of : Cal P w K mg base 1 "positions_of" ["board"] spPositions)
    (C_winner : Cal P w K mg base 3 "winner" ["board", "position"] spWinner) : FnOk P w K mg base CX0 4 f fd ["board"] spEnded := by
  refine F.ok scEnded (fun vs H Q E h => ?_) (fun cdv A outer s H vs Q E hr h => ?_)
  · obtain ⟨G, b, B, rfl, _⟩ := h
    rfl
  · obtain ⟨G, b, B, rfl, hG, hb, g, q⟩ := h
    have hr_ : ∀ {j : Nat}, j ≤ 3 → Room j _ := fun h => hr.mono h
    have np := allPos_nodup B.n
    refine ⟨_, (pss_cons (ps_set (i := 1) scEnded.nd rfl (Or.inl rfl) pe_dnewT)
      (pss_cons (ps_for PassesOwn.never rfl (pi_K (K := K) rfl (pe_call C_positions_of.ok (hr_ (by decide)) rfl C_positions_of.mg C_positions_of.kp C_positions_of.b .nil pass0 (pa_cons (pv 0) pa_nil))) (pg_name (i := 2) scEnded.nd rfl (Or.inl rfl))
       (pss_cons (ps_set (i := 3) scEnded.nd rfl (Or.inl rfl) (pe_call C_winner.ok (hr_ (by decide)) rfl C_winner.mg C_winner.kp C_winner.b .nil pass0 (pa_cons (pv 0) (pa_cons (pv 2) pa_nil))))
        (pss_one (ps_if (pt_cmp (pc_notN (pv 3)))
         (pss_one (ps_dput (hu_of hr) (pv 1) (pv 2) (pe_tup (pa_cons (pv 3) (pa_cons pe_int pa_nil))) rfl))
         pss_nil))))
      (pss_one (ps_ret (pv 1))))), ?_⟩
    intro ka hka
    have x1 := (Ext.refl hG).lay (o := .dT []) hka
    have k1 := Own.fresh (o := .dT []) (Ext.refl hG) hka
    generalize upd H ka (.dT []) = H1 at x1 k1
    refine ⟨_, rfl, G, b, B, rfl, x1.gh, hb, g, fun G2 H2 r x2 ar => ?_⟩
    cases ar with
    | lst hna al =>
    rename_i na lv
    have el : lv.length = (allPos B.n).length := by rw [al.length, List.length_map]
    have k2 := k1.ext x2
    refine ⟨na, rfl, ⟨_, SqL.of (x2.gh _ _ hna)⟩, ?_⟩
    refine for_list (xs := lv) (fun i σ H' => ∃ (v2 v3 : Option V) (G3 : Hp), σ = [some b, some (.ref ka), v2, v3] ∧ Same G2 G3 ∧ EndAt B G H G3 H' ka i) ⟨none, none, G2, rfl, Same.refl _, x1.trans x2, [], [], k2, tells_nil.congr fun p => by simp⟩ ?_ ?_ ?_
    · rintro i σ H' hi ⟨v2, v3, G3, rfl, s3, x3, _⟩
      exact SqL.of (x3.gh _ _ (s3 _ _ hna))
    · rintro i x σ H' hx ⟨v2, v3, G3, rfl, s3, x3, kvs, ps, k3, tl⟩
      obtain ⟨d, hd, ad⟩ := (al.mono s3).get' hx
      rw [List.getElem?_map] at hd
      cases hq : (allPos B.n)[i]? with
      | none => rw [hq] at hd; cases hd
      | some pl =>
        rw [hq] at hd
        have hd : posD pl = d := Option.some.inj hd
        subst hd
        obtain ⟨c, rfl, hc⟩ := ad.pos
        have hnew := take_new np hq
        refine ⟨_, rfl, _, rfl, G3, b, .ref c, B, pl, rfl, x3.gh, (hb.mono x3.gg), ad, g.len, fun H6 s6 => ?_⟩
        have x6 : Ext G H G3 H6 := ⟨x3.gg, x3.gh.trans s6, x3.hh.trans s6, x3.new⟩
        have k6 : Own H G3 H6 ka (.dT kvs) := ⟨k3.new, k3.apart, s6 _ _ k3.is⟩
        have e0 : Kn (gameOf B) 0 pl = (winAt B pl).map fun s => (s, 0) := rfl
        refine ⟨_, rfl, _, rfl, ?_⟩
        cases ew : winAt B pl with
        | none =>
          rw [ew] at e0
          have e0 : Kn (gameOf B) 0 pl = none := e0
          refine iteF ?_
          refine ⟨_, _, G3, rfl, s3, x6, kvs, ps, k6, tl.congr fun q => ?_⟩
          by_cases z : q = pl
          · subst z
            rw [if_neg hnew, if_pos ((take_mem hq _).mpr (.inl rfl)), e0]
          · by_cases z2 : q ∈ (allPos B.n).take i
            · rw [if_pos z2, if_pos ((take_mem hq _).mpr (.inr z2))]
            · rw [if_neg z2, if_neg (fun y => ((take_mem hq _).mp y).elim z z2)]
        | some t =>
          rw [ew] at e0
          have e0 : Kn (gameOf B) 0 pl = some (t, 0) := e0
          refine iteT ?_
          refine ⟨_, rfl, few (by show 2 ≤ 1000; decide), fun d hd => ?_⟩
          have x8 := x6.put (o := .tup [.str (sd t), .int 0]) hd
          have k8 := k6.put (u := .tup [.str (sd t), .int 0]) hd
          have s8 : Same G3 (upd G3 d (.tup [.str (sd t), .int 0])) := same_upd (x6.gh.free hd)
          have d8 : upd G3 d (.tup [.str (sd t), .int 0]) d = some (.tup [.str (sd t), .int 0]) := upd_same
          refine ⟨_, rfl, _, rfl, ka, _, rfl, DPut.t k8.is (k := posK pl) (x8.gh _ _ (s8 _ _ hc)) (tells_len tl (fun q hq2 => ?_) g), ?_⟩
          · by_cases z : q ∈ (allPos B.n).take i
            · exact List.mem_of_mem_take z
            · rw [if_neg z] at hq2
              cases hq2
          refine ⟨_, _, upd G3 d (.tup [.str (sd t), .int 0]), rfl, s3.trans s8, k8.write x8, _, ps ++ [pl], k8.set, ?_⟩
          have hps : pl ∉ ps := fun z => by
            have := (tl.has pl).mp z
            rw [if_neg hnew] at this
            cases this
          refine ((tl.mono s8).put (w := (t, 0)) hps (vd_at d8)).congr fun q => ?_
          by_cases z : q = pl
          · subst z
            rw [if_pos rfl, if_pos ((take_mem hq _).mpr (.inl rfl)), e0]
          · rw [if_neg z]
            by_cases z2 : q ∈ (allPos B.n).take i
            · rw [if_pos z2, if_pos ((take_mem hq _).mpr (.inr z2))]
            · rw [if_neg z2, if_neg (fun y => ((take_mem hq _).mp y).elim z z2)]
    · rintro σ H' ⟨v2, v3, G3, rfl, s3, x3, kvs, ps, k3, tl⟩
      rw [el, List.take_length] at tl
      exact ⟨_, rfl, q _ _ _ _ ps x3 k3 (tl.congr fun p => rfl)⟩
/-! ### positions_behind -/
def spBehind : Sp := fun vs H Q _ => ∃ (G : Hp) (b : V) (B : Brd) (ea : Addr) (kvs : List (List Key × V)) (ps : List Plc), vs = [b, .ref ea] ∧ Same G H ∧ At G b (boardD B) ∧ Good B ∧ Rd H ea (.dT kvs) ∧ Tells G kvs ps (kQ B 0) ∧
  ∀ (G' H' : Hp) (ba : Addr) (o : Obj) (bkv : List (List Key × V)), Ext G H G' H' → G' ba = some (.frz o (.dT bkv)) → TellsD G' bkv (goB B) (behD B) → Q (.ref ba) H'
theorem scBehind : FnScope ["board", "ended", "behind", "position"] ["board", "ended"] (defScope sBehind) := ⟨rfl, rfl, rfl, by decide +kernel, rfl, by decide +kernel, by decide +kernel⟩
structure BehAt (B : Brd) (G H G1 H1 : Hp) (ka : Addr) (i : Nat) : Prop where
  x : Ext G H G1 H1
  k : ∃ kvs, Own H G1 H1 ka (.dT kvs) ∧ TellsD G1 kvs (((allPos B.n).take i).filter fun p => (winAt B p).isNone) (behD B)
theorem ok_behind {f : Addr} {fd : FuncData} (F : Fun K "positions_behind" "positions_behind" sBehind f fd) (T : Txt mg) (C_positions_of : Cal P w K mg base 1 "positions_of" ["board"] spPositions)
    (C_lanes_ahead : Cal P w K mg base 2 "lanes_ahead" ["board", "position"] spAhead) (C_moved : Cal P w K mg base 1 "moved" ["position", "yard"] spMoved) : FnOk P w K mg base CX0 3 f fd ["board", "ended"] spBehind := by
  refine F.ok scBehind (fun vs H Q E h => ?_) (fun cdv A outer s H vs Q E hr h => ?_)
  · obtain ⟨G, b, B, ea, kvs, ps, rfl, _⟩ := h
    rfl
  · obtain ⟨G, b, B, ea, ekv, eps, rfl, hG, hb, g, hea, te, q⟩ := h
    have hr_ : ∀ {j : Nat}, j ≤ 2 → Room j _ := fun h => hr.mono h
    have np := allPos_nodup B.n
    refine ⟨_, (pss_cons (ps_set (i := 2) scBehind.nd rfl (Or.inl rfl) pe_dnewT)
      (pss_cons (ps_for PassesOwn.never rfl (pi_K (K := K) rfl (pe_call C_positions_of.ok (hr_ (by decide)) rfl C_positions_of.mg C_positions_of.kp C_positions_of.b .nil pass0 (pa_cons (pv 0) pa_nil))) (pg_name (i := 3) scBehind.nd rfl (Or.inr rfl))
       (pss_one (ps_if (pt_cmp (pc_dnotin (hu_of hr) (pv 3) (pv 1)) (by with_unfolding_all rfl))
         (pss_one (ps_dput (hu_of hr) (pv 2) (pv 3) (pe_comp ["yard", "position"] [none, some 3] rfl (cs_mk (N₀ := ["board", "ended", "behind", "position"]) (sc := defScope sBehind) (by decide +kernel)) (pi_K (K := K) rfl (pe_call C_lanes_ahead.ok (hr_ (by decide)) rfl C_lanes_ahead.mg C_lanes_ahead.kp C_lanes_ahead.b .nil pass0 (pa_cons (pv 0) (pa_cons (pv 3) pa_nil)))) (fun _ _ _ _ _ => (pg_name (i := 0) (show (["yard", "position"] : List Str).Nodup from by decide +kernel) rfl (Or.inl rfl))) (fun _ _ _ _ _ => pts_nil) (fun _ _ _ _ _ => (pe_call C_moved.ok (hr_ (by decide)) rfl C_moved.mg C_moved.kp C_moved.b .nil pass0 (pa_cons (pv 1) (pa_cons (pv 0) pa_nil))))) rfl))
         pss_nil)))
      (pss_one (ps_ret (pe_frz (pv 2)))))), ?_⟩
    intro ka hka
    have x1 := (Ext.refl hG).lay (o := .dT []) hka
    have k1 := Own.fresh (o := .dT []) (Ext.refl hG) hka
    generalize upd H ka (.dT []) = H1 at x1 k1
    refine ⟨_, rfl, G, b, B, rfl, x1.gh, hb, g, fun G2 H2 r x2 ar => ?_⟩
    cases ar with
    | lst hna al =>
    rename_i na lv
    have el : lv.length = (allPos B.n).length := by rw [al.length, List.length_map]
    have k2 := k1.ext x2
    refine ⟨na, rfl, ⟨_, SqL.of (x2.gh _ _ hna)⟩, ?_⟩
    refine for_list (xs := lv) (fun i σ H' => ∃ (v3 : Option V) (G3 : Hp), σ = [some b, some (.ref ea), some (.ref ka), v3] ∧ Same G2 G3 ∧ BehAt B G H G3 H' ka i) ⟨none, G2, rfl, Same.refl _, x1.trans x2, [], k2, tellsD_nil⟩ ?_ ?_ ?_
    · rintro i σ H' hi ⟨v3, G3, rfl, s3, x3, _⟩
      exact SqL.of (x3.gh _ _ (s3 _ _ hna))
    · rintro i x σ H' hx ⟨v3, G3, rfl, s3, x3, kvs, k3, tl⟩
      obtain ⟨d, hd, ad⟩ := (al.mono s3).get' hx
      rw [List.getElem?_map] at hd
      cases hq : (allPos B.n)[i]? with
      | none => rw [hq] at hd; cases hd
      | some pl =>
        rw [hq] at hd
        have hd : posD pl = d := Option.some.inj hd
        subst hd
        obtain ⟨c, rfl, hc⟩ := ad.pos
        have hnew := take_new np hq
        have hpm := List.mem_of_getElem? hq
        have etk : ((allPos B.n).take (i + 1)).filter (fun p => (winAt B p).isNone) = ((allPos B.n).take i).filter (fun p => (winAt B p).isNone) ++ (if (winAt B pl).isNone = true then [pl] else []) := by
          exact filter_take hq
        refine ⟨_, rfl, _, rfl, ea, _, rfl, get_t (k := posK pl) (rd_mono x3.hh hea) (x3.gh _ _ hc), _, rfl, ?_⟩
        rw [tells_is te, kQ_in hpm]
        have e0 : Kn (gameOf B) 0 pl = (winAt B pl).map fun s => (s, 0) := rfl
        cases ew : winAt B pl with
        | some t =>
          rw [ew] at e0 etk
          have e0 : Kn (gameOf B) 0 pl = some (t, 0) := e0
          rw [e0]
          refine iteF ?_
          refine ⟨_, G3, rfl, s3, x3, kvs, k3, ?_⟩
          rw [etk, if_neg (by simp), List.append_nil]
          exact tl
        | none =>
          rw [ew] at e0 etk
          have e0 : Kn (gameOf B) 0 pl = none := e0
          rw [e0]
          refine iteT ?_
          -- the positions behind
          refine ⟨_, rfl, _, rfl, G3, b, .ref c, B, pl, rfl, x3.gh, hb.mono x3.gg, ad, g.len, fun G4 H4 r4 x4 ar4 => ?_⟩
          cases ar4 with
          | lst hwa aw =>
          rename_i wa ws
          have ews := aw.ints_of
          subst ews
          have k4 := k3.ext x4
          have x34 := x3.trans x4
          refine ⟨wa, rfl, ⟨_, SqL.of (x4.gh _ _ hwa)⟩, fun D hD => ?_⟩
          have x5 := x34.lay (o := .lst []) hD
          have k5 := k4.lay (u := .lst []) hD
          have w5 := Own.fresh (o := .lst []) x34 hD
          have nkD : ka ≠ D := ne_of_none k4.is hD
          have hc4 := x4.gg _ _ hc
          refine comp_list (xs := (waysS B pl).map V.int) (fun i τ H' => ∃ (v : Option V) (G5 : Hp), τ = [v, some (.ref c)] ∧ Ext G H G5 H' ∧ Same G4 G5 ∧ Own H G5 H' ka (.dT kvs) ∧ ∃ xs, Own H G5 H' D (.lst xs) ∧ AtAll G5 xs ((((waysS B pl).take i).map (nxt pl)).map posD)) ⟨none, G4, rfl, x5, Same.refl _, k5, [], w5, .nil⟩ ?_ ?_ ?_
          · rintro i τ H' hi ⟨v, G5, rfl, x, s, _⟩
            exact SqL.of (x.gh _ _ (s _ _ hwa))
          · rintro j x τ H' hx ⟨v, G5, rfl, x6, s6, k6, xs, w6, ax⟩
            rw [List.getElem?_map] at hx
            cases hy : (waysS B pl)[j]? with
            | none => rw [hy] at hx; cases hx
            | some y =>
              rw [hy] at hx
              have hx : V.int y = x := Option.some.inj hx
              subst hx
              refine tt_go ?_
              refine ⟨_, rfl, _, rfl, G5, .ref c, pl, y, rfl, x6.gh, pos_at (s6 _ _ hc4), fun G7 H7 r7 x7 ar7 => ?_⟩
              have w7 := w6.ext x7
              have k7 := k6.ext x7
              refine ⟨xs, w7.is, ?_, _, G7, rfl, w7.write (x6.trans x7), s6.trans x7.gg, k7.other nkD, _, w7.set, ?_⟩
              · have e := ax.length
                rw [List.length_map, List.length_map, List.length_take] at e
                have h1 : (waysS B pl).length = (waysB B pl).length := srt_len _
                have h2 := ways_61 g pl
                exact small1000 (by omega)
              · rw [List.take_add_one, hy, List.map_append, List.map_append]
                exact (ax.mono x7.gg).append (.one ar7)
          rintro τ H6 ⟨v, G5, rfl, x6, s6, k6, xs, w6, ax⟩
          rw [List.length_map, List.take_length] at ax
          have x7 := w6.join x6
          have k7 := w6.joined k6 nkD
          have s7 : Same G5 (upd G5 D (.lst xs)) := same_upd w6.apart
          have a7 : At (upd G5 D (.lst xs)) (.ref D) (behD B pl) := .lst upd_same (ax.mono s7)
          generalize upd G5 D (.lst xs) = G7 at x7 k7 s7 a7
          have s47 := s6.trans s7
          refine ⟨_, rfl, _, rfl, ka, _, rfl, DPut.t k7.is (k := posK pl) (x7.gh _ _ (s47 _ _ hc4)) (tellsD_few tl g fun p hp => List.mem_of_mem_take (List.mem_filter.mp hp).1), ?_⟩
          refine ⟨_, G7, rfl, s3.trans (x4.gg.trans s47), k7.write x7, _, k7.set, ?_⟩
          rw [etk, if_pos (show (none : Option Bool).isNone = true from rfl)]
          refine (tl.mono (x4.gg.trans s47)).put (fun z => hnew (List.mem_filter.mp z).1) a7
    · rintro σ H' ⟨v3, G3, rfl, s3, x3, kvs, k3, tl⟩
      rw [el, List.take_length] at tl
      refine ⟨_, rfl, ka, kvs, rfl, k3.is, fun o => ?_⟩
      have k4 := k3.set (u := .frz o (.dT kvs))
      exact q _ _ ka o kvs (k4.join (k3.write x3)) upd_same (tl.mono (same_upd k4.apart))

/-! ### side_that_wins -/
def spSide : Sp := fun vs H Q _ => ∃ (G : Hp) (wa : Addr) (kvs : List (List Key × V)) (ps : List Plc) (k : Plc → Val) (bv : V) (qs : List Plc) (t : Bool), vs = [.ref wa, .str (sd t), bv] ∧ Same G H ∧ Rd H wa (.dT kvs) ∧ Tells G kvs ps k ∧ At G bv (.list (qs.map posD)) ∧ qs.length ≤ 100 ∧
  ∀ H', Same H H' → Q (wV (sideB k t qs)) H'
theorem scSide : FnScope ["won", "turn", "behind", "sides"] ["won", "turn", "behind"] (defScope sSide) := ⟨rfl, rfl, rfl, by decide +kernel, rfl, by decide +kernel, by decide +kernel⟩
theorem ok_side {f : Addr} {fd : FuncData} (F : Fun K "side_that_wins" "side_that_wins" sSide f fd) (T : Txt mg) (C_other_side : Cal P w K mg base 1 "other_side" ["side"] spOther) : FnOk P w K mg base CX0 2 f fd ["won", "turn", "behind"] spSide := by
  refine F.ok scSide (fun vs H Q E h => ?_) (fun cdv A outer s H vs Q E hr h => ?_)
  · obtain ⟨G, wa, kvs, ps, k, bv, qs, t, rfl, _⟩ := h
    rfl
  · obtain ⟨G, wa, kvs, ps, k, bv, qs, t, rfl, hG, hwa, tl, hbv, hlen, q⟩ := h
    have hr_ : ∀ {j : Nat}, j ≤ 1 → Room j _ := fun h => hr.mono h
    cases hbv with
    | lst hba al =>
    rename_i ba lv
    have el : lv.length = qs.length := by rw [al.length, List.length_map]
    refine ⟨_, (pss_cons (ps_setComp (i := 3) ["position", "won"] [none, some 0] rfl (cs_mk (N₀ := ["won", "turn", "behind", "sides"]) (sc := defScope sSide) (by decide +kernel)) (pi_K (K := K) rfl (pv 2)) (fun _ _ _ _ _ => (pg_name (i := 0) (show (["position", "won"] : List Str).Nodup from by decide +kernel) rfl (Or.inl rfl))) (fun _ _ _ _ _ => (pts_one (pt_cmp (pc_din (hu_of hr) (pv 0) (pv 1)) (by with_unfolding_all rfl)))) (fun _ _ _ _ _ => (pe_ix (ix_K (K := K) rfl) (pe_dget (hu_of hr) (pv 1) (pv 0) (fun _ _ => rfl)) pe_int (fun _ _ => rfl))) scSide.nd rfl (Or.inl rfl) rfl)
      (pss_cons (ps_if (pt_cmpR (op_inD hr) (pv 1) (pv 3) (by with_unfolding_all rfl))
       (pss_one (ps_ret (pv 1)))
       pss_nil)
      (pss_cons (ps_if (pt_cmpR op_eq (pe_callB (len_K (K := K) rfl) rfl T.n_len b_len (pa_cons (pv 3) pa_nil)) (pe_callB (len_K (K := K) rfl) rfl T.n_len b_len (pa_cons (pv 2) pa_nil)) (nomark _))
       (pss_one (ps_ret (pe_call C_other_side.ok (hr_ (by decide)) rfl C_other_side.mg C_other_side.kp C_other_side.b .nil pass0 (pa_cons (pv 1) pa_nil))))
       pss_nil)
      (pss_one (ps_ret pe_non))))), ?_⟩
    refine ⟨_, rfl, ba, rfl, ⟨_, SqL.of (hG _ _ hba)⟩, fun D hD => ?_⟩
    have x0 := (Ext.refl hG).lay (o := .lst []) hD
    have w0 := Own.fresh (o := .lst []) (Ext.refl hG) hD
    refine comp_list (xs := lv) (fun i τ H' => ∃ v, τ = [v, some (.ref wa)] ∧ Ext G H G H' ∧ Own H G H' D (.lst (((sidesOf k (qs.take i)).map sd).map V.str))) ⟨none, rfl, x0, w0⟩ ?_ ?_ ?_
    · rintro i τ H' hi ⟨v, rfl, x, w⟩
      exact SqL.of (x.gh _ _ hba)
    · rintro i x τ H' hx ⟨v, rfl, x1, w1⟩
      obtain ⟨d, hd, ad⟩ := al.get' hx
      rw [List.getElem?_map] at hd
      cases hq : qs[i]? with
      | none => rw [hq] at hd; cases hd
      | some pl =>
        rw [hq] at hd
        have hd : posD pl = d := Option.some.inj hd
        subst hd
        obtain ⟨c, rfl, hc⟩ := ad.pos
        have hc1 := x1.gh _ _ hc
        have st := sides_take (k := k) hq
        refine ⟨_, rfl, _, rfl, wa, _, rfl, get_t (k := posK pl) (rd_mono x1.hh hwa) hc1, _, rfl, ?_⟩
        rw [tells_is tl]
        cases ek : k pl with
        | none =>
          rw [ek] at st
          refine iteF ⟨_, rfl, x1, ?_⟩
          rw [st]
          show Own H G H' D (.lst (((sidesOf k (qs.take i) ++ []).map sd).map V.str))
          rw [List.append_nil]
          exact w1
        | some w' =>
          rw [ek] at st
          obtain ⟨a, ea, ha⟩ := tells_at tl ek
          refine iteT ?_
          refine ⟨_, rfl, _, rfl, wa, .ref a, rfl, (by rw [← ea]; exact get_t (k := posK pl) (rd_mono x1.hh hwa) hc1), .inr (.inl ⟨a, _, 0, .str (sd w'.1), rfl, rfl, SqT.of (x1.gh _ _ ha), atI_nat (j := 0) rfl, _, w1.is, ?_, _, rfl, w1.write x1, ?_⟩)⟩
          · rw [List.length_map, List.length_map]
            have h1 : (sidesOf k (qs.take i)).length ≤ (qs.take i).length := (fm_len _ _).1
            rw [List.length_take] at h1
            exact small1000 (by omega)
          · rw [st, List.map_append, List.map_append]
            exact w1.set
    rintro τ H1 ⟨v, rfl, x1, w1⟩
    rw [el, List.take_length] at w1
    -- turn in sides
    refine ⟨_, rfl, _, rfl, .str (sd t), ((sidesOf k qs).map sd).map .str, .str (sd_can _), .inl (.lst w1.is (atAll_strs fun z hz => ?_)), by show 0 ≤ 60; decide, _, rfl, ?_⟩
    · obtain ⟨b, _, rfl⟩ := List.mem_map.mp hz
      exact sd_can b
    rw [if_neg Bool.false_ne_true, any_str]
    refine ite2 (fun e => ?_) (fun e => ?_)
    · have e : t ∈ sidesOf k qs := mem_sd.mp (of_decide_eq_true e)
      have es : sideB k t qs = some t := if_pos e
      rw [es] at q
      exact ⟨_, rfl, q _ x1.hh⟩
    have e : ¬ t ∈ sidesOf k qs := fun z => e (decide_eq_true (mem_sd.mpr z))
    refine ⟨_, rfl, D, _, rfl, .inl (SqL.of w1.is), _, rfl, ba, _, rfl, .inl (SqL.of (x1.gh _ _ hba)), rfl, _, rfl, ?_⟩
    rw [decV, List.length_map, List.length_map, el]
    refine ite2 (fun e2 => ?_) (fun e2 => ?_)
    · have e2 : (sidesOf k qs).length = qs.length := by
        have := of_decide_eq_true e2
        omega
      have es : sideB k t qs = some (!t) := by unfold sideB; rw [if_neg e, if_pos e2]
      rw [es] at q
      exact ⟨_, rfl, t, rfl, q _ x1.hh⟩
    · have e2 : ¬ (sidesOf k qs).length = qs.length := fun z => e2 (decide_eq_true (by rw [z]))
      have es : sideB k t qs = none := by unfold sideB; rw [if_neg e, if_neg e2]
      rw [es] at q
      exact q _ x1.hh
/-! ### newly_won -/
def spNewly : Sp := fun vs H Q _ => ∃ (G : Hp) (B : Brd) (r : Nat) (wa : Addr) (kvs : List (List Key × V)) (ps : List Plc) (ba : Addr) (o : Obj) (bkv : List (List Key × V)), vs = [.ref wa, .ref ba] ∧ Same G H ∧ Good B ∧ Rd H wa (.dT kvs) ∧ Tells G kvs ps (kQ B r) ∧
  G ba = some (.frz o (.dT bkv)) ∧ TellsD G bkv (goB B) (behD B) ∧
  ∀ (G' H' : Hp) (fa : Addr) (o' : Obj) (fkv : List (List Key × V)), Ext G H G' H' → G' fa = some (.frz o' (.dT fkv)) → TellsD G' fkv (newQ B r) (newD B r) → Q (.ref fa) H'
theorem scNewly : FnScope ["won", "behind", "fresh", "position", "side"] ["won", "behind"] (defScope sNewly) := ⟨rfl, rfl, rfl, by decide +kernel, rfl, by decide +kernel, by decide +kernel⟩
structure NewAt (B : Brd) (r : Nat) (G H G1 H1 : Hp) (fa : Addr) (i : Nat) : Prop where
  x : Ext G H G1 H1
  k : ∃ fkv, Own H G1 H1 fa (.dT fkv) ∧ TellsD G1 fkv (((goB B).take i).filter (isNew B r)) (newD B r)
theorem ok_newly {f : Addr} {fd : FuncData} (F : Fun K "newly_won" "newly_won" sNewly f fd) (T : Txt mg) (C_side_that_wins : Cal P w K mg base 2 "side_that_wins" ["won", "turn", "behind"] spSide) : FnOk P w K mg base CX0 3 f fd ["won", "behind"] spNewly := by
  refine F.ok scNewly (fun vs H Q E h => ?_) (fun cdv A outer s H vs Q E hr h => ?_)
  · obtain ⟨G, B, r, wa, kvs, ps, ba, o, bkv, rfl, _⟩ := h
    rfl
  · obtain ⟨G, B, r, wa, kvs, ps, ba, o, bkv, rfl, hG, g, hwa, tl, hba, tb, q⟩ := h
    have hr_ : ∀ {j : Nat}, j ≤ 2 → Room j _ := fun h => hr.mono h
    refine ⟨_, (pss_cons (ps_set (i := 2) scNewly.nd rfl (Or.inl rfl) pe_dnewT)
      (pss_cons (ps_for PassesOwn.never rfl (pi_dct (pv 1)) (pg_name (i := 3) scNewly.nd rfl (Or.inl rfl))
       (pss_one (ps_if (pt_cmp (pc_dnotin (hu_of hr) (pv 3) (pv 0)) (by with_unfolding_all rfl))
         (pss_cons (ps_set (i := 4) scNewly.nd rfl (Or.inl rfl) (pe_call C_side_that_wins.ok (hr_ (by decide)) rfl C_side_that_wins.mg C_side_that_wins.kp C_side_that_wins.b .nil pass0 (pa_cons (pv 0) (pa_cons (pe_ix (ix_K (K := K) rfl) (pv 3) pe_int (fun _ _ => rfl)) (pa_cons (pe_dget (hu_of hr) (pv 1) (pv 3) (fun _ _ => rfl)) pa_nil)))))
          (pss_one (ps_if (pt_cmp (pc_notN (pv 4)))
           (pss_one (ps_dput (hu_of hr) (pv 2) (pv 3) (pv 4) rfl))
           pss_nil)))
         pss_nil)))
      (pss_one (ps_ret (pe_frz (pv 2)))))), ?_⟩
    intro fa hfa
    have x1 := (Ext.refl hG).lay (o := .dT []) hfa
    have k1 := Own.fresh (o := .dT []) (Ext.refl hG) hfa
    generalize upd H fa (.dT []) = H1 at x1 k1
    refine ⟨_, rfl, ba, o, bkv, rfl, x1.gh _ _ hba, ?_⟩
    refine for_dct (kvs := bkv) (a := ba) (o := o) (fun i σ H' => ∃ (v3 v4 : Option V), σ = [some (.ref wa), some (.ref ba), some (.ref fa), v3, v4] ∧ NewAt B r G H G H' fa i) ⟨none, none, rfl, x1, [], k1, tellsD_nil⟩ ?_ ?_ ?_
    · rintro i σ H' hi ⟨v3, v4, rfl, x, _⟩
      exact x.gh _ _ hba
    · rintro i ky vv b σ H' hkv hb ⟨v3, v4, rfl, x2, fkv, k2, tf⟩
      obtain ⟨pl, hpl, rfl⟩ := tellsD_key tb hkv
      have hgo := List.mem_of_getElem? hpl
      obtain ⟨hpm, hwn⟩ := mem_go.mp hgo
      have hb : H' b = some (.tup (posV pl)) := hb
      have hnew : pl ∉ (goB B).take i := take_new (go_nodup B) hpl
      have etk : ((goB B).take (i + 1)).filter (isNew B r) = ((goB B).take i).filter (isNew B r) ++ (if isNew B r pl = true then [pl] else []) := by
        exact filter_take hpl
      refine ⟨_, rfl, _, rfl, wa, _, rfl, get_t (k := posK pl) (rd_mono x2.hh hwa) hb, _, rfl, ?_⟩
      rw [tells_is tl, kQ_in hpm]
      cases ek : Kn (gameOf B) r pl with
      | some w' =>
        refine iteF ?_
        refine ⟨_, _, rfl, x2, fkv, k2, ?_⟩
        rw [etk, if_neg (by unfold isNew; rw [ek]; simp), List.append_nil]
        exact tf
      | none =>
        refine iteT ?_
        obtain ⟨bv, ebv, abv⟩ := tb.at_ pl hgo
        refine ⟨_, rfl, _, rfl, .inr (.inl ⟨b, _, 2, .str (sd pl.t), rfl, rfl, SqT.of hb, atI_nat (j := 2) rfl, _, rfl, _, rfl, ba, bv, rfl, (by rw [← ebv]; exact get_t (k := posK pl) (rd_frz (x2.gh _ _ hba)) hb), ?_⟩)⟩
        refine ⟨G, wa, kvs, ps, kQ B r, bv, behS B pl, pl.t, rfl, x2.gh, rd_mono x2.hh hwa, tl, abv, ?_, fun H3 s3 => ?_⟩
        · rw [beh_len]
          have := ways_61 g pl
          omega
        rw [side_new g hgo ek]
        have x3 : Ext G H G H3 := x2.trans (Ext.grow x2.gh s3)
        have k3 : Own H G H3 fa (.dT fkv) := ⟨k2.new, k2.apart, s3 _ _ k2.is⟩
        refine ⟨_, rfl, _, rfl, ?_⟩
        cases e1 : Kn (gameOf B) (r + 1) pl with
        | none =>
          refine iteF ?_
          refine ⟨_, _, rfl, x3, fkv, k3, ?_⟩
          rw [etk, if_neg (by unfold isNew; rw [e1]; simp), List.append_nil]
          exact tf
        | some w' =>
          refine iteT ?_
          refine ⟨_, rfl, _, rfl, _, rfl, fa, _, rfl, DPut.t k3.is (k := posK pl) (s3 _ _ hb) (tellsD_few tf g fun p hp => (mem_go.mp (List.mem_of_mem_take (List.mem_filter.mp hp).1)).1), ?_⟩
          refine ⟨_, _, rfl, k3.write x3, _, k3.set, ?_⟩
          rw [etk, if_pos (by unfold isNew; rw [ek, e1]; rfl)]
          refine tf.put (fun z => hnew (List.mem_filter.mp z).1) ?_
          have es : sdN B r pl = w'.1 := by unfold sdN; rw [e1]; rfl
          show At G _ (.str (sd (sdN B r pl)))
          rw [es]
          exact .str (sd_can _)
    · rintro σ H' ⟨v3, v4, rfl, x2, fkv, k2, tf⟩
      rw [tb.len, List.take_length] at tf
      refine ⟨_, rfl, fa, fkv, rfl, k2.is, fun o' => ?_⟩
      have k4 := k2.set (u := .frz o' (.dT fkv))
      exact q _ _ fa o' fkv (k4.join (k2.write x2)) upd_same (tf.mono (same_upd k4.apart))

/-! ### won_positions -/
def spWon : Sp := fun vs H Q _ => ∃ (G : Hp) (b : V) (B : Brd), vs = [b] ∧ Same G H ∧ At G b (boardD B) ∧ Good B ∧
  ∀ (G' H' : Hp) (wa : Addr) (o : Obj) (kvs : List (List Key × V)) (ps : List Plc), Ext G H G' H' → G' wa = some (.frz o (.dT kvs)) → Tells G' kvs ps (kF B) → Q (.ref wa) H'
theorem scWon : FnScope ["board", "won", "behind", "count", "fresh", "position"] ["board"] (defScope sWon) := ⟨rfl, rfl, rfl, by decide +kernel, rfl, by decide +kernel, by decide +kernel⟩
/-- between two rounds -/
structure WonAt (B : Brd) (G H G1 H1 : Hp) (wa ba fa : Addr) (o : Obj) (bkv fkv : List (List Key × V)) (r : Nat) : Prop where
  x : Ext G H G1 H1
  k : ∃ kvs ps, Own H G1 H1 wa (.dT kvs) ∧ Tells G1 kvs ps (kQ B r)
  b : G1 ba = some (.frz o (.dT bkv))
  t : TellsD G1 bkv (goB B) (behD B)
  f : ∃ o', G1 fa = some (.frz o' (.dT fkv))
  n : TellsD G1 fkv (newQ B r) (newD B r)
/-- within a round -/
structure PutAt (B : Brd) (G H G1 H1 : Hp) (wa ba fa : Addr) (o o' : Obj) (bkv fkv : List (List Key × V)) (r i : Nat) : Prop where
  x : Ext G H G1 H1
  k : ∃ kvs ps, Own H G1 H1 wa (.dT kvs) ∧ Tells G1 kvs ps (kS B r i)
  b : G1 ba = some (.frz o (.dT bkv))
  t : TellsD G1 bkv (goB B) (behD B)
  f : G1 fa = some (.frz o' (.dT fkv))
  n : TellsD G1 fkv (newQ B r) (newD B r)
theorem ok_won {f : Addr} {fd : FuncData} (F : Fun K "won_positions" "won_positions" sWon f fd) (T : Txt mg) (C_ended_positions : Cal P w K mg base 4 "ended_positions" ["board"] spEnded)
    (C_positions_behind : Cal P w K mg base 3 "positions_behind" ["board", "ended"] spBehind) (C_newly_won : Cal P w K mg base 3 "newly_won" ["won", "behind"] spNewly) : FnOk P w K mg base CX0 5 f fd ["board"] spWon := by
  refine F.ok scWon (fun vs H Q E h => ?_) (fun cdv A outer s H vs Q E hr h => ?_)
  · obtain ⟨G, b, B, rfl, _⟩ := h
    rfl
  · obtain ⟨G, b, B, rfl, hG, hb, g, q⟩ := h
    have hr_ : ∀ {j : Nat}, j ≤ 4 → Room j _ := fun h => hr.mono h
    refine ⟨_, (pss_cons (ps_set (i := 1) scWon.nd rfl (Or.inl rfl) (pe_call C_ended_positions.ok (hr_ (by decide)) rfl C_ended_positions.mg C_ended_positions.kp C_ended_positions.b .nil pass0 (pa_cons (pv 0) pa_nil)))
      (pss_cons (ps_set (i := 2) scWon.nd rfl (Or.inl rfl) (pe_call C_positions_behind.ok (hr_ (by decide)) rfl C_positions_behind.mg C_positions_behind.kp C_positions_behind.b .nil pass0 (pa_cons (pv 0) (pa_cons (pv 1) pa_nil))))
      (pss_cons (ps_set (i := 3) scWon.nd rfl (Or.inl rfl) pe_int)
      (pss_cons (ps_set (i := 4) scWon.nd rfl (Or.inl rfl) (pe_call C_newly_won.ok (hr_ (by decide)) rfl C_newly_won.mg C_newly_won.kp C_newly_won.b .nil pass0 (pa_cons (pv 1) (pa_cons (pv 2) pa_nil))))
      (pss_cons (ps_while PassesOwn.never (pt_dct (pv 4))
       (pss_cons (ps_for PassesOwn.never rfl (pi_dct (pv 4)) (pg_name (i := 5) scWon.nd rfl (Or.inl rfl))
         (pss_one (ps_dput (hu_of hr) (pv 1) (pv 5) (pe_tup (pa_cons (pe_dget (hu_of hr) (pv 4) (pv 5) (fun _ _ => rfl)) (pa_cons (pv 3) pa_nil))) rfl)))
        (pss_cons (ps_set (i := 3) scWon.nd rfl (Or.inl rfl) (pe_op op_add (pv 3) pe_int))
        (pss_one (ps_set (i := 4) scWon.nd rfl (Or.inl rfl) (pe_call C_newly_won.ok (hr_ (by decide)) rfl C_newly_won.mg C_newly_won.kp C_newly_won.b .nil pass0 (pa_cons (pv 1) (pa_cons (pv 2) pa_nil))))))))
      (pss_one (ps_ret (pe_frz (pv 1))))))))), ?_⟩
    refine ⟨_, rfl, G, b, B, rfl, hG, hb, g, fun G1 H1 wa kvs ps x1 k1 t1 => ?_⟩
    refine ⟨_, rfl, _, rfl, G1, b, B, wa, kvs, ps, rfl, x1.gh, hb.mono x1.gg, g, .inl k1.is, t1, fun G2 H2 ba o bkv x2 b2 t2 => ?_⟩
    have k2 := k1.ext x2
    have x12 := x1.trans x2
    refine ⟨_, rfl, _, rfl, G2, B, 0, wa, kvs, ps, ba, o, bkv, rfl, x2.gh, g, .inl k2.is, t1.mono x2.gg, b2, t2, fun G3 H3 fa o3 fkv x3 f3 n3 => ?_⟩
    have k3 := k2.ext x3
    have x13 := x12.trans x3
    -- the rounds
    refine ⟨fun m σ H' => ∃ (r : Nat) (v5 : Option V) (fa : Addr) (fkv : List (List Key × V)) (G1 : Hp), σ = [some b, some (.ref wa), some (.ref ba), some (.int ((r + 1 : Nat) : Int)), some (.ref fa), v5] ∧ WonAt B G H G1 H' wa ba fa o bkv fkv r ∧ m = leftN B r,
      ⟨_, 0, none, fa, fkv, G3, rfl, ⟨x13, ⟨kvs, ps, k3, (t1.mono x2.gg).mono x3.gg⟩, x3.gg _ _ b2, t2.mono x3.gg, ⟨o3, f3⟩, n3⟩, rfl⟩, ?_⟩
    clear x13 k3 n3 f3 x3 o3 fkv fa H3 G3 x12 k2 t2 b2 x2 H2 G2 t1 k1 x1 ps kvs H1 G1
    rintro m σ H1 ⟨r, v5, fa, fkv, G1, rfl, ⟨x1, ⟨kvs, ps, k1, t1⟩, b1, tb, ⟨of, f1⟩, n1⟩, rfl⟩
    refine ⟨_, rfl, fa, fkv, rfl, rd_frz (x1.gh _ _ f1), ?_⟩
    rw [n1.len]
    refine ite2 (fun e => ?_) (fun e => ?_)
    · have e : newQ B r ≠ [] := fun z => by
        have := of_decide_eq_true e
        rw [z] at this
        exact this rfl
      refine ⟨fun σ' H' => ∃ (v5 : Option V) (fa : Addr) (fkv : List (List Key × V)) (G1 : Hp), σ' = [some b, some (.ref wa), some (.ref ba), some (.int ((r + 1 + 1 : Nat) : Int)), some (.ref fa), v5] ∧ WonAt B G H G1 H' wa ba fa o bkv fkv (r + 1), ?_, ?_⟩
      · rintro σ' H' ⟨v5, fa, fkv, G1, rfl, R⟩
        exact ⟨_, leftN_lt e, r + 1, v5, fa, fkv, G1, rfl, R, rfl⟩
      -- the round's finds are written
      refine ⟨_, rfl, fa, of, fkv, rfl, x1.gh _ _ f1, ?_⟩
      refine for_dct (kvs := fkv) (a := fa) (o := of) (fun i σ H' => ∃ (v5 : Option V) (G1 : Hp), σ = [some b, some (.ref wa), some (.ref ba), some (.int ((r + 1 : Nat) : Int)), some (.ref fa), v5] ∧ PutAt B G H G1 H' wa ba fa o of bkv fkv r i) ⟨v5, G1, rfl, x1, ⟨kvs, ps, k1, t1.congr fun p => (kS_zero B r p).symm⟩, b1, tb, f1, n1⟩ ?_ ?_ ?_
      · rintro i σ H' hi ⟨v5, G2, rfl, R⟩
        exact R.x.gh _ _ R.f
      · rintro i ky vv c σ H' hkv hc ⟨v5, G2, rfl, ⟨x2, ⟨kvs, ps, k2, t2⟩, b2, tb2, f2, n2⟩⟩
        obtain ⟨pl, hpl, rfl⟩ := tellsD_key n2 hkv
        have hnm := List.mem_of_getElem? hpl
        obtain ⟨hgo, hk, t, ht⟩ := mem_new.mp hnm
        have hc : H' c = some (.tup (posV pl)) := hc
        obtain ⟨fv, efv, afv⟩ := n2.at_ pl hnm
        have es : sdN B r pl = t := by unfold sdN; rw [ht]; rfl
        have afv : At G2 fv (.str (sd (sdN B r pl))) := afv
        rw [es] at afv
        cases afv
        refine ⟨_, rfl, _, rfl, fa, .str (sd t), rfl, (by rw [← efv]; exact get_t (k := posK pl) (rd_frz (x2.gh _ _ f2)) hc), _, rfl, few (by show 2 ≤ 1000; decide), fun d hd => ?_⟩
        have x3 := x2.put (o := .tup [.str (sd t), .int ((r + 1 : Nat) : Int)]) hd
        have k3 := k2.put (u := .tup [.str (sd t), .int ((r + 1 : Nat) : Int)]) hd
        have s3 : Same G2 (upd G2 d (.tup [.str (sd t), .int ((r + 1 : Nat) : Int)])) := same_upd (x2.gh.free hd)
        have d3 : upd G2 d (.tup [.str (sd t), .int ((r + 1 : Nat) : Int)]) d = some (.tup [.str (sd t), .int ((r + 1 : Nat) : Int)]) := upd_same
        have hc3 : upd H' d (.tup [.str (sd t), .int ((r + 1 : Nat) : Int)]) c = some (.tup (posV pl)) := same_upd hd _ _ hc
        refine ⟨_, rfl, _, rfl, wa, _, rfl, DPut.t k3.is (k := posK pl) hc3 (tells_len t2 (fun p hp => kS_in hp) g), ?_⟩
        refine ⟨_, _, rfl, k3.write x3, ⟨_, ps ++ [pl], k3.set, ?_⟩, s3 _ _ b2, tb2.mono s3, s3 _ _ f2, n2.mono s3⟩
        have hps : pl ∉ ps := fun z => by
          have := (t2.has pl).mp z
          rw [kS_old hpl] at this
          cases this
        exact ((t2.mono s3).put (w := (t, r + 1)) hps (vd_at d3)).congr fun p => kS_step hpl ht p
      · rintro σ H' ⟨v5, G2, rfl, ⟨x2, ⟨kvs, ps, k2, t2⟩, b2, tb2, f2, n2⟩⟩
        rw [n2.len] at t2
        have t2 := t2.congr fun p => kS_end B r p
        refine ⟨_, rfl, _, _, rfl, rfl, ?_⟩
        refine ⟨_, rfl, _, rfl, G2, B, r + 1, wa, kvs, ps, ba, o, bkv, rfl, x2.gh, g, .inl k2.is, t2, b2, tb2, fun G3 H3 fa o3 fkv x3 f3 n3 => ?_⟩
        have k3 := k2.ext x3
        have x23 := x2.trans x3
        exact ⟨_, fa, fkv, G3, rfl, x23, ⟨kvs, ps, k3, t2.mono x3.gg⟩, x3.gg _ _ b2, tb2.mono x3.gg, ⟨o3, f3⟩, n3⟩
    · have e : newQ B r = [] := by
        refine Classical.byContradiction fun z => e (decide_eq_true ?_)
        intro y
        exact z (List.eq_nil_of_length_eq_zero y)
      refine ⟨_, rfl, wa, kvs, rfl, k1.is, fun o' => ?_⟩
      have k4 := k1.set (u := .frz o' (.dT kvs))
      exact q _ _ wa o' kvs ps (k4.join (k1.write x1)) upd_same ((t1.mono (same_upd k4.apart)).congr fun p => kF_rest g e p)

/-! ### move_told -/
def spMoveTold : Sp := fun vs H Q _ => ∃ (G : Hp) (b : V) (B : Brd) (wa : Addr) (o : Obj) (kvs : List (List Key × V)) (ps : List Plc) (pv : V) (p : Plc), vs = [b, .ref wa, pv] ∧ Same G H ∧ At G b (boardD B) ∧ Good B ∧ G wa = some (.frz o (.dT kvs)) ∧ Tells G kvs ps (kF B) ∧ At G pv (posD p) ∧ p ∈ allPos B.n ∧
  ∀ H', Same H H' → Q (mvV (moveB B p)) H'
theorem scMoveTold : FnScope ["board", "won", "position", "goal", "fitting"] ["board", "won", "position"] (defScope sMoveTold) := ⟨rfl, rfl, rfl, by decide +kernel, rfl, by decide +kernel, by decide +kernel⟩
theorem ok_moveTold {f : Addr} {fd : FuncData} (F : Fun K "move_told" "move_told" sMoveTold f fd) (T : Txt mg) (C_lanes_ahead : Cal P w K mg base 2 "lanes_ahead" ["board", "position"] spAhead)
    (C_moved : Cal P w K mg base 1 "moved" ["position", "yard"] spMoved) : FnOk P w K mg base CX0 3 f fd ["board", "won", "position"] spMoveTold := by
  refine F.ok scMoveTold (fun vs H Q E h => ?_) (fun cdv A outer s H vs Q E hr h => ?_)
  · obtain ⟨G, b, B, wa, o, kvs, ps, pv, p, rfl, _⟩ := h
    rfl
  · obtain ⟨G, b, B, wa, o, kvs, ps, pv, p, rfl, hG, hb, g, hwa, tl, hpv, hp, q⟩ := h
    have hr_ : ∀ {j : Nat}, j ≤ 2 → Room j _ := fun h => hr.mono h
    obtain ⟨pa, rfl, hpa⟩ := hpv.pos
    refine ⟨_, (pss_cons (ps_set (i := 3) scMoveTold.nd rfl (Or.inr rfl) pe_non)
      (pss_cons (ps_if (pt_cmp (pc_din (hu_of hr) (pv 2) (pv 1)) (by with_unfolding_all rfl))
       (pss_cons (ps_if (pt_cmpR op_eq (pe_ix (ix_K (K := K) rfl) (pe_dget (hu_of hr) (pv 1) (pv 2) (fun _ _ => rfl)) pe_int (fun _ _ => rfl)) pe_int (nomark _))
         (pss_one (ps_ret pe_non))
         pss_nil)
        (pss_one (ps_set (i := 3) scMoveTold.nd rfl (Or.inr rfl) (pe_tup (pa_cons (pe_ix (ix_K (K := K) rfl) (pe_dget (hu_of hr) (pv 1) (pv 2) (fun _ _ => rfl)) pe_int (fun _ _ => rfl)) (pa_cons (pe_op op_sub (pe_ix (ix_K (K := K) rfl) (pe_dget (hu_of hr) (pv 1) (pv 2) (fun _ _ => rfl)) pe_int (fun _ _ => rfl)) pe_int) pa_nil))))))
       pss_nil)
      (pss_cons (ps_setComp (i := 4) ["yard", "goal", "won", "position"] [none, some 3, some 1, some 2] rfl (cs_mk (N₀ := ["board", "won", "position", "goal", "fitting"]) (sc := defScope sMoveTold) (by decide +kernel)) (pi_K (K := K) rfl (pe_call C_lanes_ahead.ok (hr_ (by decide)) rfl C_lanes_ahead.mg C_lanes_ahead.kp C_lanes_ahead.b .nil pass0 (pa_cons (pv 0) (pa_cons (pv 2) pa_nil)))) (fun _ _ _ _ _ => (pg_name (i := 0) (show (["yard", "goal", "won", "position"] : List Str).Nodup from by decide +kernel) rfl (Or.inl rfl))) (fun _ _ _ _ _ => (pts_one (pt_cmpR (op_eqD hr) (pe_dget1 (hu_of hr) (pv 2) (pe_call C_moved.ok (hr_ (by decide)) rfl C_moved.mg C_moved.kp C_moved.b .nil pass0 (pa_cons (pv 3) (pa_cons (pv 0) pa_nil))) ⟨rfl, rfl, rfl, rfl⟩) (pv 1) (nomark _)))) (fun _ _ _ _ _ => (pv 0)) scMoveTold.nd rfl (Or.inl rfl) rfl)
      (pss_one (ps_ret (pe_ix (ix_K (K := K) rfl) (pv 4) pe_int (fun _ _ => rfl))))))), ?_⟩
    refine seq_two (fun σ' H' => σ' = [some b, some (.ref wa), some (.ref pa), some .non, none] ∧ H' = H) ?_ (fun t => t _ _ ⟨rfl, rfl⟩)
    rintro σ' HX ⟨rfl, eX⟩
    have hG : Same G HX := by rw [eX]; exact hG
    have q : ∀ H', Same HX H' → Q (mvV (moveB B p)) H' := by rw [eX]; exact q
    clear eX
    refine seq_two (fun σ' H' => ∃ (gv : V) (G1 : Hp), σ' = [some b, some (.ref wa), some (.ref pa), some gv, none] ∧ Ext G HX G1 H' ∧ At G1 gv (dV (prevV (verd B p))) ∧ winAt B p = none) ?_ (fun tail => ?_)
    · rintro σ' H1 ⟨gv, G1, rfl, x1, agv, hwn⟩
      refine ⟨_, rfl, _, rfl, G1, b, .ref pa, B, p, rfl, x1.gh, hb.mono x1.gg, pos_at (x1.gg _ _ hpa), g.len, fun G2 H2 r2 x2 ar2 => ?_⟩
      cases ar2 with
      | lst hra aw =>
      rename_i ra ws
      have ews := aw.ints_of
      subst ews
      have x12 := x1.trans x2
      have hwa2 := x12.gg _ _ hwa
      have hpa2 := x12.gg _ _ hpa
      have tl2 := tl.mono x12.gg
      have agv2 := agv.mono x2.gg
      refine ⟨ra, rfl, ⟨_, SqL.of (x2.gh _ _ hra)⟩, fun D hD => ?_⟩
      have x3 := x12.lay (o := .lst []) hD
      have w3 := Own.fresh (o := .lst []) x12 hD
      refine comp_list (xs := (waysS B p).map V.int) (fun i τ H' => ∃ v, τ = [v, some gv, some (.ref wa), some (.ref pa)] ∧ Ext G HX G2 H' ∧ Own HX G2 H' D (.lst ((((waysS B p).take i).filter (fun y => decide (kF B (nxt p y) = prevV (verd B p)))).map V.int))) ⟨none, rfl, x3, w3⟩ ?_ ?_ ?_
      · rintro i τ H' hi ⟨v, rfl, x, _⟩
        exact SqL.of (x.gh _ _ hra)
      · rintro j x τ H' hx ⟨v, rfl, x4, w4⟩
        rw [List.getElem?_map] at hx
        cases hy : (waysS B p)[j]? with
        | none => rw [hy] at hx; cases hx
        | some y =>
          rw [hy] at hx
          have hx : V.int y = x := Option.some.inj hx
          subst hx
          have etk : ((waysS B p).take (j + 1)).filter (fun y => decide (kF B (nxt p y) = prevV (verd B p))) = ((waysS B p).take j).filter (fun y => decide (kF B (nxt p y) = prevV (verd B p))) ++ (if decide (kF B (nxt p y) = prevV (verd B p)) = true then [y] else []) := by
            exact filter_take hy
          refine ⟨_, rfl, wa, rfl, isD_t (rd_frz (x4.gh _ _ hwa2)), _, rfl, _, rfl, G2, .ref pa, p, y, rfl, x4.gh, pos_at hpa2, fun G5 H5 r5 x5 ar5 => ?_⟩
          obtain ⟨c, rfl, hc⟩ := ar5.pos
          have x45 : Ext G HX G2 H5 := x4.trans (Ext.grow x4.gh x5.hh)
          have w5 : Own HX G2 H5 D _ := ⟨w4.new, w4.apart, x5.hh _ _ w4.is⟩
          refine ⟨_, get_t (k := posK (nxt p y)) (rd_frz (x45.gh _ _ hwa2)) (x5.gh _ _ hc), _, rfl, dV (kF B (nxt p y)), _, (val_dV (tl2.at_ _)).mono x45.gh, agv2.mono x45.gh, Nat.le_trans (Nat.min_le_left _ _) (dV_depth _), _, rfl, ?_⟩
          rw [eqv_dV]
          refine ite2 (fun e => ?_) (fun e => ?_)
          · refine ⟨_, rfl, _, w5.is, ?_, _, rfl, w5.write x45, ?_⟩
            · rw [List.length_map]
              have h0 := List.length_filter_le (fun y => decide (kF B (nxt p y) = prevV (verd B p))) ((waysS B p).take j)
              rw [List.length_take] at h0
              have h1 : (waysS B p).length = (waysB B p).length := srt_len _
              have h2 := ways_61 g p
              exact small1000 (by omega)
            · rw [etk, if_pos e, List.map_append]
              exact w5.set
          · refine ⟨_, rfl, x45, ?_⟩
            rw [etk, if_neg e, List.append_nil]
            exact w5
      rintro τ H4 ⟨v, rfl, x4, w4⟩
      rw [List.length_map, List.take_length] at w4
      obtain ⟨y, rest, ef, em⟩ := move_head g hp hwn
      rw [ef] at w4
      rw [em] at q
      exact ⟨_, rfl, .inl ⟨D, _, 0, .int y, rfl, rfl, SqL.of w4.is, atI_nat (j := 0) rfl, q _ x4.hh⟩⟩
    -- goal
    have gk : DGet HX wa (.ref pa) (valV kvs (posK p)) := get_t (k := posK p) (rd_frz (hG _ _ hwa)) (hG _ _ hpa)
    refine ⟨_, rfl, _, rfl, wa, _, rfl, gk, _, rfl, ?_⟩
    rw [tells_is tl, kF_in hp]
    cases ev : verd B p with
    | none =>
      rw [ev] at tail
      exact iteF (tail _ _ ⟨.non, G, rfl, Ext.refl hG, .non, win_of_open ev⟩)
    | some w' =>
      obtain ⟨t, n⟩ := w'
      obtain ⟨a, ea, ha⟩ := tells_at tl (p := p) (w := (t, n)) (by rw [kF_in hp]; exact ev)
      rw [ea] at gk
      have ha1 := hG _ _ ha
      refine iteT ?_
      refine ⟨_, rfl, _, rfl, wa, .ref a, rfl, gk, .inr (.inl ⟨a, _, 1, .int (n : Int), rfl, rfl, SqT.of ha1, atI_nat (j := 1) rfl, rfl, _, rfl, ?_⟩)⟩
      rw [decV]
      refine ite2 (fun e => ?_) (fun e => ?_)
      · have e : n = 0 := by
          have := of_decide_eq_true e
          omega
        cases ew : winAt B p with
        | none => exact absurd e ((win_of_verd ev).mp ew)
        | some u =>
          rw [move_none ew] at q
          exact q _ (Same.refl _)
      · have e : n ≠ 0 := fun z => e (decide_eq_true (by rw [z]; rfl))
        refine ⟨_, rfl, _, rfl, wa, .ref a, rfl, gk, .inr (.inl ⟨a, _, 0, .str (sd t), rfl, rfl, SqT.of ha1, atI_nat (j := 0) rfl, _, rfl, _, rfl, wa, .ref a, rfl, gk, .inr (.inl ⟨a, _, 1, .int (n : Int), rfl, rfl, SqT.of ha1, atI_nat (j := 1) rfl, _, _, rfl, rfl, few (by show 2 ≤ 1000; decide), fun c hc => ?_⟩)⟩)⟩
        rw [ev] at tail
        have en : ((n : Int) - 1) = ((n - 1 : Nat) : Int) := by omega
        refine tail _ _ ⟨.ref c, upd G c (.tup [.str (sd t), .int ((n : Int) - 1)]), rfl, (Ext.refl hG).put hc, ?_, (win_of_verd ev).mpr e⟩
        rw [en]
        exact vd_at (w := (t, n - 1)) upd_same

/-! ### verdicts_on -/
def spVerdicts : Sp := fun vs H Q _ => ∃ (G : Hp) (b : V) (B : Brd), vs = [b] ∧ Same G H ∧ At G b (boardD B) ∧ Good B ∧
  ∀ (G' H' : Hp) (va : Addr) (o : Obj) (kvs : List (List Key × V)), Ext G H G' H' → G' va = some (.frz o (.dT kvs)) → TellsD G' kvs (allPos B.n) (vdD B) → Q (.ref va) H'
theorem scVerdicts : FnScope ["board", "won", "verdicts", "position", "standing"] ["board"] (defScope sVerdicts) := ⟨rfl, rfl, rfl, by decide +kernel, rfl, by decide +kernel, by decide +kernel⟩
theorem ok_verdicts {f : Addr} {fd : FuncData} (F : Fun K "verdicts_on" "verdicts_on" sVerdicts f fd) (T : Txt mg) (C_check_board : Cal P w K mg base 2 "check_board" ["board"] spCheck) (C_won_positions : Cal P w K mg base 5 "won_positions" ["board"] spWon)
    (C_positions_of : Cal P w K mg base 1 "positions_of" ["board"] spPositions) (C_move_told : Cal P w K mg base 3 "move_told" ["board", "won", "position"] spMoveTold) : FnOk P w K mg base CX0 6 f fd ["board"] spVerdicts := by
  refine F.ok scVerdicts (fun vs H Q E h => ?_) (fun cdv A outer s H vs Q E hr h => ?_)
  · obtain ⟨G, b, B, rfl, _⟩ := h
    rfl
  · obtain ⟨G, b, B, rfl, hG, hb, g, q⟩ := h
    have hr_ : ∀ {j : Nat}, j ≤ 5 → Room j _ := fun h => hr.mono h
    have np := allPos_nodup B.n
    have f98 := few98 g
    refine ⟨_, (pss_cons (ps_expr (pe_call C_check_board.ok (hr_ (by decide)) rfl C_check_board.mg C_check_board.kp C_check_board.b .nil pass0 (pa_cons (pv 0) pa_nil)))
      (pss_cons (ps_set (i := 1) scVerdicts.nd rfl (Or.inl rfl) (pe_call C_won_positions.ok (hr_ (by decide)) rfl C_won_positions.mg C_won_positions.kp C_won_positions.b .nil pass0 (pa_cons (pv 0) pa_nil)))
      (pss_cons (ps_set (i := 2) scVerdicts.nd rfl (Or.inl rfl) pe_dnewT)
      (pss_cons (ps_for PassesOwn.never rfl (pi_K (K := K) rfl (pe_call C_positions_of.ok (hr_ (by decide)) rfl C_positions_of.mg C_positions_of.kp C_positions_of.b .nil pass0 (pa_cons (pv 0) pa_nil))) (pg_name (i := 3) scVerdicts.nd rfl (Or.inl rfl))
       (pss_cons (ps_set (i := 4) scVerdicts.nd rfl (Or.inl rfl) (pe_dget2 (hu_of hr) (pv 1) (pv 3) (pe_tup (pa_cons pe_str (pa_cons pe_non pa_nil))) ⟨rfl, rfl, rfl, rfl⟩))
        (pss_one (ps_dput (hu_of hr) (pv 2) (pv 3) (pe_tup (pa_cons (pe_ix (ix_K (K := K) rfl) (pv 4) pe_int (fun _ _ => rfl)) (pa_cons (pe_ix (ix_K (K := K) rfl) (pv 4) pe_int (fun _ _ => rfl)) (pa_cons (pe_call C_move_told.ok (hr_ (by decide)) rfl C_move_told.mg C_move_told.kp C_move_told.b .nil pass0 (pa_cons (pv 0) (pa_cons (pv 1) (pa_cons (pv 3) pa_nil)))) pa_nil)))) rfl))))
      (pss_one (ps_ret (pe_frz (pv 2)))))))), ?_⟩
    refine ⟨_, rfl, G, b, B, rfl, hG, hb, g, coops7 g, g.cnd, fun H1 s1 => ?_⟩
    refine ⟨_, rfl, G, b, B, rfl, hG.trans s1, hb, g, fun G2 H2 wa ow wkv wps x2 hw2 tw2 => ?_⟩
    have x02 : Ext G H G2 H2 := (Ext.grow hG s1).trans x2
    intro va hva
    have x3 := x02.lay (o := .dT []) hva
    have k3 := Own.fresh (o := .dT []) x02 hva
    generalize upd H2 va (.dT []) = H3 at x3 k3
    refine ⟨_, rfl, G2, b, B, rfl, x3.gh, hb.mono x02.gg, g, fun G4 H4 r4 x4 ar4 => ?_⟩
    cases ar4 with
    | lst hna al =>
    rename_i na lv
    have el : lv.length = (allPos B.n).length := by rw [al.length, List.length_map]
    refine ⟨na, rfl, ⟨_, SqL.of (x4.gh _ _ hna)⟩, ?_⟩
    have hw4 := x4.gg _ _ hw2
    have tw4 := tw2.mono x4.gg
    refine for_list (xs := lv) (fun i σ H' => ∃ (v3 v4 : Option V) (G5 : Hp), σ = [some b, some (.ref wa), some (.ref va), v3, v4] ∧ Same G4 G5 ∧ Ext G H G5 H' ∧ ∃ vk, Own H G5 H' va (.dT vk) ∧ TellsD G5 vk ((allPos B.n).take i) (vdD B))
      ⟨none, none, G4, rfl, Same.refl _, x3.trans x4, [], k3.ext x4, tellsD_nil⟩ ?_ ?_ ?_
    · rintro i σ H' hi ⟨v3, v4, G5, rfl, s5, x5, _⟩
      exact SqL.of (x5.gh _ _ (s5 _ _ hna))
    · rintro i x σ H' hx ⟨v3, v4, G5, rfl, s5, x5, vk, k5, t5⟩
      obtain ⟨d, hd, ad⟩ := (al.mono s5).get' hx
      rw [List.getElem?_map] at hd
      cases hq : (allPos B.n)[i]? with
      | none => rw [hq] at hd; cases hd
      | some pl =>
        rw [hq] at hd
        have hd : posD pl = d := Option.some.inj hd
        subst hd
        obtain ⟨c, rfl, hc⟩ := ad.pos
        have hnew := take_new np hq
        have hpm := List.mem_of_getElem? hq
        have hw5 := s5 _ _ hw4
        have tw5 := tw4.mono s5
        -- standing
        refine ⟨_, rfl, wa, rfl, isD_t (rd_frz (x5.gh _ _ hw5)), _, rfl, few (by show 2 ≤ 1000; decide), fun d hd => ?_⟩
        have x6 := x5.put (o := .tup [.str "open", .non]) hd
        have k6 := k5.put (u := .tup [.str "open", .non]) hd
        have s6 : Same G5 (upd G5 d (.tup [.str "open", .non])) := same_upd (x5.gh.free hd)
        have d6 : upd G5 d (.tup [.str "open", .non]) d = some (.tup [.str "open", .non]) := upd_same
        generalize upd H' d (.tup [.str "open", .non]) = H6 at x6 k6
        generalize upd G5 d (.tup [.str "open", .non]) = G6 at x6 k6 s6 d6
        have hc6 := s6 _ _ hc
        obtain ⟨sa, esa, hsa⟩ : ∃ sa, (valV wkv (posK pl)).getD (.ref d) = .ref sa ∧ G6 sa = some (.tup [.str (whoS (verd B pl)), cntV (verd B pl)]) := by
          cases ev : verd B pl with
          | none =>
            have e1 := tells_is tw5 pl
            rw [kF_in hpm, ev] at e1
            cases e2 : valV wkv (posK pl) with
            | none => exact ⟨d, rfl, d6⟩
            | some u => rw [e2] at e1; cases e1
          | some w' =>
            obtain ⟨a, ea, ha⟩ := tells_at tw5 (p := pl) (w := w') (by rw [kF_in hpm]; exact ev)
            exact ⟨a, by rw [ea]; rfl, s6 _ _ ha⟩
        refine ⟨_, get_t (k := posK pl) (rd_frz (x6.gh _ _ (s6 _ _ hw5))) (x6.gh _ _ hc6), ?_⟩
        dsimp only [gName]
        rw [esa]
        have hsa6 := x6.gh _ _ hsa
        refine ⟨_, rfl, .inr (.inl ⟨sa, _, 0, .str (whoS (verd B pl)), rfl, rfl, SqT.of hsa6, atI_nat (j := 0) rfl, _, rfl, .inr (.inl ⟨sa, _, 1, cntV (verd B pl), rfl, rfl, SqT.of hsa6, atI_nat (j := 1) rfl, _, rfl, _, rfl, _, rfl, ?_⟩)⟩)⟩
        refine ⟨G6, b, B, wa, ow, wkv, wps, .ref c, pl, rfl, x6.gh, hb.mono x6.gg, g, s6 _ _ hw5, tw5.mono s6, pos_at hc6, hpm, fun H7 s7 => ⟨few (by show 3 ≤ 1000; decide), fun e he => ?_⟩⟩
        have x7 : Ext G H G6 H7 := x6.trans (Ext.grow x6.gh s7)
        have k7 : Own H G6 H7 va (.dT vk) := ⟨k6.new, k6.apart, s7 _ _ k6.is⟩
        have x8 := x7.put (o := .tup [.str (whoS (verd B pl)), cntV (verd B pl), mvV (moveB B pl)]) he
        have k8 := k7.put (u := .tup [.str (whoS (verd B pl)), cntV (verd B pl), mvV (moveB B pl)]) he
        have s8 : Same G6 (upd G6 e (.tup [.str (whoS (verd B pl)), cntV (verd B pl), mvV (moveB B pl)])) := same_upd (x7.gh.free he)
        have a8 : At (upd G6 e (.tup [.str (whoS (verd B pl)), cntV (verd B pl), mvV (moveB B pl)])) (.ref e) (vdD B pl) := vdD_at upd_same
        have hc8 := x8.gh _ _ (s8 _ _ hc6)
        refine ⟨_, rfl, _, rfl, va, _, rfl, DPut.t k8.is (k := posK pl) hc8 (tellsD_few t5 g fun p hp => List.mem_of_mem_take hp), ?_⟩
        refine ⟨_, _, _, rfl, s5.trans (s6.trans s8), k8.write x8, _, k8.set, ?_⟩
        rw [List.take_add_one, hq]
        exact (t5.mono (s6.trans s8)).put hnew a8
    · rintro σ H' ⟨v3, v4, G5, rfl, s5, x5, vk, k5, t5⟩
      rw [el, List.take_length] at t5
      refine ⟨_, rfl, va, vk, rfl, k5.is, fun o => ?_⟩
      have k6 := k5.set (u := .frz o (.dT vk))
      exact q _ _ va o vk (k6.join (k5.write x5)) upd_same (t5.mono (same_upd k6.apart))

/-! ### solved -/
def spSolved : Sp := fun vs H Q _ => ∃ (G : Hp) (b : V) (B : Brd), vs = [b] ∧ Same G H ∧ At G b (boardD B) ∧ Good B ∧ ∀ (G' H' : Hp) (r : V), ExtW G H G' H' → At G' r (.list ((allPos B.n).map (entD B))) → Q r H'
theorem scSolved : FnScope ["board", "verdicts"] ["board"] (defScope sSolved) := ⟨rfl, rfl, rfl, by decide +kernel, rfl, by decide +kernel, by decide +kernel⟩
theorem ok_solved {f : Addr} {fd : FuncData} (F : Fun K "solved" "solved" sSolved f fd) (T : Txt mg) (C_verdicts_on : Cal P w K mg base 6 "verdicts_on" ["board"] spVerdicts) : FnOk P w K mg base CX0 7 f fd ["board"] spSolved := by
  refine F.ok scSolved (fun vs H Q E h => ?_) (fun cdv A outer s H vs Q E hr h => ?_)
  · obtain ⟨G, b, B, rfl, _⟩ := h
    rfl
  · obtain ⟨G, b, B, rfl, hG, hb, g, q⟩ := h
    have hr_ : ∀ {j : Nat}, j ≤ 6 → Room j _ := fun h => hr.mono h
    have f98 := few98 g
    refine ⟨_, (pss_cons (ps_set (i := 1) scSolved.nd rfl (Or.inr rfl) (pe_call C_verdicts_on.ok (hr_ (by decide)) rfl C_verdicts_on.mg C_verdicts_on.kp C_verdicts_on.b .nil pass0 (pa_cons (pv 0) pa_nil)))
      (pss_one (ps_ret (pe_comp ["position", "verdicts"] [none, some 1] rfl (cs_mk (N₀ := ["board", "verdicts"]) (sc := defScope sSolved) (by decide +kernel)) (pi_dct (pv 1)) (fun _ _ _ _ _ => (pg_name (i := 0) (show (["position", "verdicts"] : List Str).Nodup from by decide +kernel) rfl (Or.inl rfl))) (fun _ _ _ _ _ => pts_nil) (fun _ _ _ _ _ => (pe_op (catT_K (K := K) rfl) (pe_tup (pa_cons (pv 0) pa_nil)) (pe_dget (hu_of hr) (pv 1) (pv 0) (fun _ _ => rfl)))))))), ?_⟩
    refine ⟨_, rfl, G, b, B, rfl, hG, hb, g, fun G1 H1 va o kvs x1 v1 t1 => ?_⟩
    refine ⟨_, rfl, va, o, kvs, rfl, x1.gh _ _ v1, fun D hD => ?_⟩
    refine comp_dct (kvs := kvs) (a := va) (o := o) (fun i τ H' => ∃ (v : Option V) (G2 : Hp), τ = [v, some (.ref va)] ∧ Same G1 G2 ∧ Same G2 H' ∧ Same H1 H' ∧ G2 D = none ∧ ∃ xs, H' D = some (.lst xs) ∧ AtAll G2 xs (((allPos B.n).take i).map (entD B)))
      ⟨none, G1, rfl, Same.refl _, x1.gh.trans (same_upd hD), same_upd hD, x1.gh.free hD, [], upd_same, .nil⟩ ?_ ?_ ?_
    · rintro i τ H' hi ⟨v, G2, rfl, s2, g2, _⟩
      exact g2 _ _ (s2 _ _ v1)
    · rintro i ky vv c τ H' hkv hc ⟨v, G2, rfl, s2, g2, h2, d2, xs, hD2, ax⟩
      obtain ⟨pl, hpl, rfl⟩ := tellsD_key t1 hkv
      have hpm := List.mem_of_getElem? hpl
      have hc : H' c = some (.tup (posV pl)) := hc
      obtain ⟨vv', ev, av⟩ := t1.at_ pl hpm
      obtain ⟨a, rfl, ha⟩ := vdD_of av
      have ncD : c ≠ D := ne_of hc hD2 (fun z => nomatch z)
      refine tt_go ?_
      refine ⟨_, rfl, few (by show 1 ≤ 1000; decide), fun d hd => ?_⟩
      have s3 : Same H' (upd H' d (.tup [.ref c])) := same_upd hd
      have d3 : upd H' d (.tup [.ref c]) d = some (.tup [.ref c]) := upd_same
      generalize upd H' d (.tup [.ref c]) = H3 at s3 d3
      have g3 := g2.trans s3
      refine ⟨_, rfl, _, rfl, va, .ref a, rfl, (by rw [← ev]; exact get_t (k := posK pl) (rd_frz (g3 _ _ (s2 _ _ v1))) (s3 _ _ hc)), ?_⟩
      refine ⟨d, a, [.ref c], _, rfl, rfl, SqT.of d3, SqT.of (g3 _ _ (s2 _ _ ha)), List.cons_ne_nil _ _, few (by show 1 + 3 ≤ 1000; decide), (fun z => nomatch z), fun _ e he => ?_⟩
      have s4 : Same H3 (upd H3 e (.tup ([.ref c] ++ [.str (whoS (verd B pl)), cntV (verd B pl), mvV (moveB B pl)]))) := same_upd he
      -- the stable part takes the position and the entry
      have gc : Same G2 (upd G2 c (.tup (posV pl))) := fun b u z => by
        by_cases y : b = c
        · subst y
          have := g2 _ _ z
          rw [hc] at this
          rw [upd_same, ← this]
        · rw [upd_ne y]
          exact z
      have gh : Same (upd G2 c (.tup (posV pl))) H3 := Ext.join g3 (s3 _ _ hc)
      have ne_c : e ≠ c := fun z => by
        subst z
        rw [s3 _ _ hc] at he
        cases he
      have nDe : D ≠ e := fun z => by
        subst z
        rw [s3 _ _ hD2] at he
        cases he
      have nDd : D ≠ d := fun z => by
        subst z
        rw [hD2] at hd
        cases hd
      have ge : Same (upd G2 c (.tup (posV pl))) (upd (upd G2 c (.tup (posV pl))) e (.tup [.ref c, .str (whoS (verd B pl)), cntV (verd B pl), mvV (moveB B pl)])) := same_upd (gh.free he)
      have gf : Same (upd (upd G2 c (.tup (posV pl))) e (.tup [.ref c, .str (whoS (verd B pl)), cntV (verd B pl), mvV (moveB B pl)])) (upd H3 e (.tup ([.ref c] ++ [.str (whoS (verd B pl)), cntV (verd B pl), mvV (moveB B pl)]))) := gh.upd2
      have gD : upd (upd G2 c (.tup (posV pl))) e (.tup [.ref c, .str (whoS (verd B pl)), cntV (verd B pl), mvV (moveB B pl)]) D = none := by
        rw [upd_ne nDe, upd_ne (Ne.symm ncD)]
        exact d2
      have ae : At (upd (upd G2 c (.tup (posV pl))) e (.tup [.ref c, .str (whoS (verd B pl)), cntV (verd B pl), mvV (moveB B pl)])) (.ref e) (entD B pl) := ent_at upd_same (ge _ _ upd_same)
      have hD4 := s4 _ _ (s3 _ _ hD2)
      refine ⟨xs, hD4, ?_, _, _, rfl, s2.trans (gc.trans ge), gf.side gD, ?_, gD, _, upd_same, ?_⟩
      · have e := ax.length
        rw [List.length_map, List.length_take] at e
        exact small1000 (by omega)
      · intro b u z
        have nb : b ≠ D := fun y => by
          subst y
          rw [hD] at z
          cases z
        rw [upd_ne nb]
        exact s4 _ _ (s3 _ _ (h2 _ _ z))
      · rw [List.take_add_one, hpl, List.map_append]
        exact (ax.mono (gc.trans ge)).append (.one ae)
    · rintro τ H' ⟨v, G2, rfl, s2, g2, h2, d2, xs, hD2, ax⟩
      rw [t1.len, List.take_length] at ax
      exact q (upd G2 D (.lst xs)) H' (.ref D) ⟨x1.gg.trans (s2.trans (same_upd d2)), Ext.join g2 hD2, x1.hh.trans h2⟩ (.lst upd_same (ax.mono (same_upd d2)))

/-! ### check_lane -/
def spLane (C : Addr) : Sp := fun vs H Q E => ∃ (G : Hp) (b v : V) (B : Brd) (p : Plc) (y : Int), vs = [b, v, .int y] ∧ Same G H ∧ At G b (boardD B) ∧ At G v (posD p) ∧ B.lanes.length ≤ 61 ∧ (∀ H', Same H H' → y ∈ waysB B p → Q .non H') ∧ (∀ H', Same H H' → y ∉ waysB B p → E (.ref C) none H')
theorem scLane : FnScope ["board", "position", "yard"] ["board", "position", "yard"] (defScope sLane) := ⟨rfl, rfl, rfl, by decide +kernel, rfl, by decide +kernel, by decide +kernel⟩
theorem ok_lane {f : Addr} {fd : FuncData} (F : Fun K "check_lane" "check_lane" sLane f fd) (T : Txt mg) (L_NoLane : Kls K mg "NoLane") (C_lanes_ahead : Cal P w K mg base 2 "lanes_ahead" ["board", "position"] spAhead) :
    FnOk P w K mg base (CX1 P w) 3 f fd ["board", "position", "yard"] (spLane L_NoLane.C) := by
  refine fun_okX F scLane (fun vs H Q E h => ?_) (fun cdv A outer s H vs Q E hr h => ?_)
  · obtain ⟨G, b, v, B, p, y, rfl, _⟩ := h
    rfl
  · obtain ⟨G, b, v, B, p, y, rfl, hG, hb, hv, hlen, q, qe⟩ := h
    have hr_ : ∀ {j : Nat}, j ≤ 2 → Room j _ := fun h => hr.mono h
    refine ⟨_, (pss_one (ps_if (pt_cmpR (op_notInD hr) (pv 2) (pe_call C_lanes_ahead.ok (hr_ (by decide)) rfl C_lanes_ahead.mg C_lanes_ahead.kp C_lanes_ahead.b .nil pass0 (pa_cons (pv 0) (pa_cons (pv 1) pa_nil))) (by with_unfolding_all rfl))
       (pss_one (ps_raise rfl L_NoLane.mg L_NoLane.ex))
       pss_nil)), ?_⟩
    refine ⟨_, rfl, _, rfl, _, rfl, G, b, v, B, p, rfl, hG, hb, hv, hlen, fun G1 H1 r x1 ar => ?_⟩
    refine ⟨_, (waysS B p).map .int, .int y, .inl (ar.mono x1.gh), by show 0 ≤ 60; decide, _, rfl, ?_⟩
    rw [if_pos rfl, any_int]
    by_cases hy : y ∈ waysB B p
    · rw [decide_eq_true (show y ∈ waysS B p from srt_mem.mpr hy)]
      exact iteF (q _ x1.hh hy)
    · rw [decide_eq_false (show ¬ y ∈ waysS B p from fun z => hy (srt_mem.mp z))]
      exact iteT (qe _ x1.hh hy)

def spWhole : Sp := fun vs H Q _ => ∃ (x : V) (d : PyData), vs = [x] ∧ At H x d ∧ Q (.bl (isInt d && !isBool d)) H
/-! ### _law_whole -/
theorem scWhole : FnScope ["_law_found"] ["_law_found"] (defScope sWhole) := ⟨rfl, rfl, rfl, by decide +kernel, rfl, by decide +kernel, by decide +kernel⟩
theorem ok_whole {f : Addr} {fd : FuncData} (F : Fun K "_law_whole" "_law_whole" sWhole f fd) (T : Txt mg) : FnOk P w K mg base CX0 1 f fd ["_law_found"] spWhole := by
  refine F.ok scWhole (fun vs H Q E h => ?_) (fun cdv A outer s H vs Q E hr h => ?_)
  · obtain ⟨x, d, rfl, _⟩ := h
    rfl
  · obtain ⟨x, d, rfl, hx, q⟩ := h
    refine ⟨_, (pss_one (ps_ret (pe_and (pe_callB isi_int rfl T.n_isinstance b_isinstance (pa_cons (pv 0) (pa_cons (pe_ty "int" rfl T.n_int b_int) pa_nil))) (pe_one (pe_not (pe_callB isi_bool rfl T.n_isinstance b_isinstance (pa_cons (pv 0) (pa_cons (pe_ty "bool" rfl T.n_bool b_bool) pa_nil)))))))), ?_⟩
    refine ⟨_, rfl, _, d, rfl, hx, _, rfl, ite2 (fun hc => ?_) (fun hc => ?_)⟩
    · refine ⟨_, rfl, _, d, rfl, hx, _, rfl, ?_⟩
      rw [hc, Bool.true_and] at q
      exact q
    · rw [show isInt d = false by simpa using hc, Bool.false_and] at q
      exact q

/-! ### _law_ways_of -/
def spWaysOf : Sp := fun vs H Q _ => ∃ (G : Hp) (b : V) (B : Brd) (y : Int), vs = [b, .int y] ∧ Same G H ∧ At G b (boardD B) ∧ B.lanes.length ≤ 61 ∧
  ∀ (G' H' : Hp) (r : V), Ext G H G' H' → At G' r (.list ((waysL B.lanes y).map .int)) → Q r H'
theorem scWaysOf : FnScope ["_law_board", "_law_yard"] ["_law_board", "_law_yard"] (defScope sWaysOf) := ⟨rfl, rfl, rfl, by decide +kernel, rfl, by decide +kernel, by decide +kernel⟩
theorem ok_waysOf {f : Addr} {fd : FuncData} (F : Fun K "_law_ways_of" "_law_ways_of" sWaysOf f fd) (T : Txt mg) : FnOk P w K mg base CX0 1 f fd ["_law_board", "_law_yard"] spWaysOf := by
  refine F.ok scWaysOf (fun vs H Q E h => ?_) (fun cdv A outer s H vs Q E hr h => ?_)
  · obtain ⟨G, b, B, y, rfl, _⟩ := h
    rfl
  · obtain ⟨G, b, B, y, rfl, hG, hb, hlen, q⟩ := h
    obtain ⟨p, la, ca, ls, rfl, hp, hla, als, hca⟩ := hb.board
    refine ⟨_, (pss_one (ps_ret (pe_comp ["_law_lane", "_law_yard"] [none, some 1] rfl (cs_mk (N₀ := ["_law_board", "_law_yard"]) (sc := defScope sWaysOf) (by decide +kernel)) (pi_K (K := K) rfl (pe_ix (ix_K (K := K) rfl) (pv 0) pe_int (fun _ _ => rfl))) (fun _ _ _ _ _ => (pg_name (i := 0) (show (["_law_lane", "_law_yard"] : List Str).Nodup from by decide +kernel) rfl (Or.inl rfl))) (fun _ _ _ _ _ => (pts_one (pt_cmpR op_eq (pe_ix (ix_K (K := K) rfl) (pv 0) pe_int (fun _ _ => rfl)) (pv 1) (nomark _)))) (fun _ _ _ _ _ => (pe_ix (ix_K (K := K) rfl) (pv 0) pe_int (fun _ _ => rfl)))))), ?_⟩
    refine ⟨_, rfl, .inr (.inl ⟨p, _, 1, .ref la, rfl, rfl, SqT.of (hG _ _ hp), atI_nat (j := 1) rfl, la, rfl, ⟨ls, SqL.of (hG _ _ hla)⟩, fun D hD => ?_⟩)⟩
    have x0 := (Ext.refl hG).lay (o := .lst []) hD
    have w0 := Own.fresh (o := .lst []) (Ext.refl hG) hD
    have el : ls.length = B.lanes.length := by rw [als.length, List.length_map]
    refine comp_list (xs := ls) (fun i τ H' => ∃ v, τ = [v, some (.int y)] ∧ Ext G H G H' ∧ Own H G H' D (.lst ((waysL (B.lanes.take i) y).map V.int))) ⟨none, rfl, x0, w0⟩ ?_ ?_ ?_
    · rintro i τ H' hi ⟨v, rfl, x, w⟩
      exact SqL.of (x.gh _ _ hla)
    · rintro i x τ H' hx ⟨v, rfl, x1, w1⟩
      obtain ⟨d, hd, ad⟩ := als.get' hx
      rw [List.getElem?_map] at hd
      cases hl : B.lanes[i]? with
      | none => rw [hl] at hd; cases hd
      | some l =>
        rw [hl] at hd
        have hd : laneD l = d := Option.some.inj hd
        subst hd
        obtain ⟨c, rfl, hc⟩ := ad.lane
        have hc' := x1.gh _ _ hc
        refine ⟨_, rfl, .inr (.inl ⟨c, _, 0, .int l.1, rfl, rfl, SqT.of hc', atI_nat (j := 0) rfl, _, rfl, rfl, _, rfl, ?_⟩)⟩
        rw [decV]
        have wt := waysL_take (y := y) hl
        refine ite2 (fun e => ?_) (fun e => ?_)
        · have e : l.1 = y := of_decide_eq_true e
          refine ⟨_, rfl, .inr (.inl ⟨c, _, 1, .int l.2, rfl, rfl, SqT.of hc', atI_nat (j := 1) rfl, _, w1.is, ?_, _, rfl, w1.write x1, ?_⟩)⟩
          · rw [List.length_map]
            have := waysL_len (B.lanes.take i) y
            rw [List.length_take] at this
            exact small1000 (by omega)
          · rw [wt, if_pos e, List.map_append]
            exact w1.set
        · have e : ¬ l.1 = y := fun z => e (decide_eq_true z)
          refine ⟨_, rfl, x1, ?_⟩
          rw [wt, if_neg e, List.append_nil]
          exact w1
    · rintro τ H' ⟨v, rfl, x1, w1⟩
      rw [el, List.take_length] at w1
      exact q _ _ _ (Own.join x1 w1) (.lst upd_same (AtAll.ints _))
/-! ### _law_turned -/
def spTurned : Sp := fun vs H Q _ => ∃ t : Bool, vs = [.str (sd t)] ∧ ∀ H', Same H H' → Q (.str (sd (!t))) H'
theorem scTurned : FnScope ["_law_side"] ["_law_side"] (defScope sTurned) := ⟨rfl, rfl, rfl, by decide +kernel, rfl, by decide +kernel, by decide +kernel⟩
theorem ok_turned {f : Addr} {fd : FuncData} (F : Fun K "_law_turned" "_law_turned" sTurned f fd) (T : Txt mg) : FnOk P w K mg base CX0 1 f fd ["_law_side"] spTurned := by
  refine F.ok scTurned (fun vs H Q E h => ?_) (fun cdv A outer s H vs Q E hr h => ?_)
  · obtain ⟨t, rfl, _⟩ := h
    rfl
  · obtain ⟨t, rfl, q⟩ := h
    refine ⟨_, (pss_one (ps_ret (pe_ix (ix_K (K := K) rfl) (pe_lst (pa_cons pe_str (pa_cons pe_str pa_nil))) (pe_callTy call_int1 rfl T.n_int b_int (pa_cons (pe_cmpR op_eq (pv 0) pe_str (nomark _)) pa_nil)) (fun _ _ => rfl)))), ?_⟩
    refine ⟨by decide, fun p hp => ⟨_, rfl, rfl, .inr ⟨_, rfl, .inl ⟨p, _, _, .str (sd (!t)), rfl, rfl, SqL.of upd_same, ?_, q _ (same_upd hp)⟩⟩⟩⟩
    rw [sd_fox]
    cases t
    · exact atI_nat (j := 0) rfl
    · exact atI_nat (j := 1) rfl
/-! ### _law_yard_of -/
def spYardOf : Sp := fun vs H Q _ => ∃ (v : V) (p : Plc), vs = [v] ∧ At H v (posD p) ∧ Q (.int (yardOf p)) H
theorem scYardOf : FnScope ["_law_position"] ["_law_position"] (defScope sYardOf) := ⟨rfl, rfl, rfl, by decide +kernel, rfl, by decide +kernel, by decide +kernel⟩
theorem ok_yardOf {f : Addr} {fd : FuncData} (F : Fun K "_law_yard_of" "_law_yard_of" sYardOf f fd) (T : Txt mg) : FnOk P w K mg base CX0 1 f fd ["_law_position"] spYardOf := by
  refine F.ok scYardOf (fun vs H Q E h => ?_) (fun cdv A outer s H vs Q E hr h => ?_)
  · obtain ⟨v, p, rfl, _⟩ := h
    rfl
  · obtain ⟨v, p, rfl, hv, q⟩ := h
    obtain ⟨a, rfl, ha⟩ := hv.pos
    refine ⟨_, (pss_one (ps_ret (pe_ix (ix_K (K := K) rfl) (pv 0) (pe_callTy call_int1 rfl T.n_int b_int (pa_cons (pe_cmpR op_eq (pe_ix (ix_K (K := K) rfl) (pv 0) pe_int (fun _ _ => rfl)) pe_str (nomark _)) pa_nil)) (fun _ _ => rfl)))), ?_⟩
    refine ⟨_, rfl, _, rfl, .inr (.inl ⟨a, _, 2, .str (sd p.t), rfl, rfl, SqT.of ha, atI_nat (j := 2) rfl, rfl, .inr ⟨_, rfl, .inr (.inl ⟨a, _, _, .int (yardOf p), rfl, rfl, SqT.of ha, ?_, q⟩)⟩⟩)⟩
    rw [sd_hen]
    unfold yardOf
    cases p.t
    · exact atI_nat (j := 1) rfl
    · exact atI_nat (j := 0) rfl
/-! ### _law_winner_at -/
def spWinnerAt : Sp := fun vs H Q _ => ∃ (G : Hp) (b v : V) (B : Brd) (p : Plc), vs = [b, v] ∧ Same G H ∧ At G b (boardD B) ∧ At G v (posD p) ∧ B.lanes.length ≤ 61 ∧ ∀ H', Same H H' → Q (wV (winAt B p)) H'
theorem scWinnerAt : FnScope ["_law_board", "_law_position"] ["_law_board", "_law_position"] (defScope sWinnerAt) := ⟨rfl, rfl, rfl, by decide +kernel, rfl, by decide +kernel, by decide +kernel⟩
theorem ok_winnerAt {f : Addr} {fd : FuncData} (F : Fun K "_law_winner_at" "_law_winner_at" sWinnerAt f fd) (T : Txt mg) (C__law_ways_of : Cal P w K mg base 1 "_law_ways_of" ["_law_board", "_law_yard"] spWaysOf) (C__law_yard_of : Cal P w K mg base 1 "_law_yard_of" ["_law_position"] spYardOf)
    (C__law_turned : Cal P w K mg base 1 "_law_turned" ["_law_side"] spTurned) : FnOk P w K mg base CX0 2 f fd ["_law_board", "_law_position"] spWinnerAt := by
  refine F.ok scWinnerAt (fun vs H Q E h => ?_) (fun cdv A outer s H vs Q E hr h => ?_)
  · obtain ⟨G, b, v, B, p, rfl, _⟩ := h
    rfl
  · obtain ⟨G, b, v, B, p, rfl, hG, hb, hv, hlen, q⟩ := h
    have hr_ : ∀ {j : Nat}, j ≤ 1 → Room j _ := fun h => hr.mono h
    obtain ⟨c, la, ca, ls, rfl, hc, hla, als, hca⟩ := hb.board
    obtain ⟨a, rfl, ha⟩ := hv.pos
    have ha1 := hG _ _ ha
    refine ⟨_, (pss_cons (ps_if (pt_cmpR op_eq (pe_ix (ix_K (K := K) rfl) (pv 1) pe_int (fun _ _ => rfl)) (pe_ix (ix_K (K := K) rfl) (pv 1) pe_int (fun _ _ => rfl)) (nomark _))
       (pss_one (ps_ret pe_str))
       pss_nil)
      (pss_cons (ps_if (pt_cmpR (op_inD hr) (pe_ix (ix_K (K := K) rfl) (pv 1) pe_int (fun _ _ => rfl)) (pe_ix (ix_K (K := K) rfl) (pv 0) pe_int (fun _ _ => rfl)) (by with_unfolding_all rfl))
       (pss_one (ps_ret pe_str))
       pss_nil)
      (pss_cons (ps_if (pt_cmpR (op_eqD hr) (pe_call C__law_ways_of.ok (hr_ (by decide)) rfl C__law_ways_of.mg C__law_ways_of.kp C__law_ways_of.b .nil pass0 (pa_cons (pv 0) (pa_cons (pe_call C__law_yard_of.ok (hr_ (by decide)) rfl C__law_yard_of.mg C__law_yard_of.kp C__law_yard_of.b .nil pass0 (pa_cons (pv 1) pa_nil)) pa_nil))) (pe_lst pa_nil) (nomark _))
       (pss_one (ps_ret (pe_call C__law_turned.ok (hr_ (by decide)) rfl C__law_turned.mg C__law_turned.kp C__law_turned.b .nil pass0 (pa_cons (pe_ix (ix_K (K := K) rfl) (pv 1) pe_int (fun _ _ => rfl)) pa_nil))))
       pss_nil)
      (pss_one (ps_ret pe_non))))), ?_⟩
    refine ⟨_, rfl, .inr (.inl ⟨a, _, 0, .int p.f, rfl, rfl, SqT.of ha1, atI_nat (j := 0) rfl, _, rfl, .inr (.inl ⟨a, _, 1, .int p.h, rfl, rfl, SqT.of ha1, atI_nat (j := 1) rfl, rfl, _, rfl, ?_⟩)⟩)⟩
    rw [decV]
    refine ite2 (fun e => ?_) (fun e => ?_)
    · have e : p.f = p.h := of_decide_eq_true e
      have ew : winAt B p = some true := by unfold winAt; rw [if_pos e]
      rw [ew] at q
      exact q H (Same.refl _)
    have e : ¬ p.f = p.h := fun z => e (decide_eq_true z)
    -- in coops
    refine ⟨_, rfl, .inr (.inl ⟨a, _, 1, .int p.h, rfl, rfl, SqT.of ha1, atI_nat (j := 1) rfl, _, rfl, .inr (.inl ⟨c, _, 2, .ref ca, rfl, rfl, SqT.of (hG _ _ hc), atI_nat (j := 2) rfl, _, _, .int p.h, .inl (.lst (hG _ _ hca) (AtAll.ints B.coops)), by show 0 ≤ 60; decide, _, rfl, ?_⟩)⟩)⟩
    rw [if_neg Bool.false_ne_true, any_int]
    refine ite2 (fun e2 => ?_) (fun e2 => ?_)
    · have e2 : p.h ∈ B.coops := of_decide_eq_true e2
      have ew : winAt B p = some false := by unfold winAt; rw [if_neg e, if_pos e2]
      rw [ew] at q
      exact q H (Same.refl _)
    have e2 : ¬ p.h ∈ B.coops := fun z => e2 (decide_eq_true z)
    -- no way
    refine ⟨_, rfl, _, rfl, .ref a, p, rfl, hv.mono hG, G, .ref c, B, yardOf p, rfl, hG, hb, hlen, fun G1 H1 r x1 ar => ?_⟩
    refine ⟨by decide, fun l hl => ⟨_, _, (ar.mono x1.gh).mono (same_upd hl), .lst upd_same .nil, ?_, _, rfl, ?_⟩⟩
    · have : (PyData.list ([] : List PyData)).depth = 1 := by simp [PyData.depth, PyData.depthAll]
      omega
    have sm : Same H (upd H1 l (.lst [])) := x1.hh.trans (same_upd hl)
    have ee : PyData.eqv (.list ((waysL B.lanes (yardOf p)).map .int)) (.list []) = decide (waysB B p = []) := by
      show _ = decide (waysL B.lanes (yardOf p) = [])
      cases waysL B.lanes (yardOf p) <;> simp [PyData.eqv, PyData.eqvAll]
    rw [ee]
    refine ite2 (fun e3 => ?_) (fun e3 => ?_)
    · have e3 : waysB B p = [] := of_decide_eq_true e3
      have ew : winAt B p = some (!p.t) := by unfold winAt; rw [if_neg e, if_neg e2, if_pos e3]
      rw [ew] at q
      refine ⟨_, rfl, .inr (.inl ⟨a, _, 2, .str (sd p.t), rfl, rfl, SqT.of (sm _ _ ha1), atI_nat (j := 2) rfl, p.t, rfl, fun H' s' => q H' (sm.trans s')⟩)⟩
    · have e3 : ¬ waysB B p = [] := fun z => e3 (decide_eq_true z)
      have ew : winAt B p = none := by unfold winAt; rw [if_neg e, if_neg e2, if_neg e3]
      rw [ew] at q
      exact q _ sm
/-! ### _law_next -/
def spNext : Sp := fun vs H Q _ => ∃ (G : Hp) (v : V) (p : Plc) (y : Int), vs = [v, .int y] ∧ Same G H ∧ At G v (posD p) ∧ ∀ (G' H' : Hp) (r : V), Ext G H G' H' → At G' r (posD (nxt p y)) → Q r H'
theorem scNext : FnScope ["_law_position", "_law_yard"] ["_law_position", "_law_yard"] (defScope sNext) := ⟨rfl, rfl, rfl, by decide +kernel, rfl, by decide +kernel, by decide +kernel⟩
theorem ok_next {f : Addr} {fd : FuncData} (F : Fun K "_law_next" "_law_next" sNext f fd) (T : Txt mg) : FnOk P w K mg base CX0 1 f fd ["_law_position", "_law_yard"] spNext := by
  refine F.ok scNext (fun vs H Q E h => ?_) (fun cdv A outer s H vs Q E hr h => ?_)
  · obtain ⟨G, v, p, y, rfl, _⟩ := h
    rfl
  · obtain ⟨G, v, p, y, rfl, hG, hv, q⟩ := h
    obtain ⟨a, rfl, ha⟩ := hv.pos
    have ha1 := hG _ _ ha
    refine ⟨_, (pss_cons (ps_if (pt_cmpR op_eq (pe_ix (ix_K (K := K) rfl) (pv 0) pe_int (fun _ _ => rfl)) pe_str (nomark _))
       (pss_one (ps_ret (pe_tup (pa_cons (pv 1) (pa_cons (pe_ix (ix_K (K := K) rfl) (pv 0) pe_int (fun _ _ => rfl)) (pa_cons pe_str pa_nil))))))
       pss_nil)
      (pss_one (ps_ret (pe_tup (pa_cons (pe_ix (ix_K (K := K) rfl) (pv 0) pe_int (fun _ _ => rfl)) (pa_cons (pv 1) (pa_cons pe_str pa_nil))))))), ?_⟩
    refine ⟨_, rfl, .inr (.inl ⟨a, _, 2, .str (sd p.t), rfl, rfl, SqT.of ha1, atI_nat (j := 2) rfl, rfl, _, rfl, ?_⟩)⟩
    rw [sd_fox]
    refine ite2 (fun e => ?_) (fun e => ?_)
    · have en : nxt p y = ⟨y, p.h, false⟩ := by unfold nxt; rw [if_pos e]
      rw [en] at q
      refine ⟨_, rfl, _, rfl, .inr (.inl ⟨a, _, 1, .int p.h, rfl, rfl, SqT.of ha1, atI_nat (j := 1) rfl, few (by show 3 ≤ 1000; decide), fun c hc => ?_⟩)⟩
      exact q _ _ _ ((Ext.refl hG).put hc) (pos_at (p := ⟨y, p.h, false⟩) upd_same)
    · have en : nxt p y = ⟨p.f, y, true⟩ := by unfold nxt; rw [if_neg e]
      rw [en] at q
      refine ⟨_, rfl, .inr (.inl ⟨a, _, 0, .int p.f, rfl, rfl, SqT.of ha1, atI_nat (j := 0) rfl, _, rfl, few (by show 3 ≤ 1000; decide), fun c hc => ?_⟩)⟩
      exact q _ _ _ ((Ext.refl hG).put hc) (pos_at (p := ⟨p.f, y, true⟩) upd_same)

/-! ### _law_is_place -/
def spIsPlace : Sp := fun vs H Q _ => ∃ (x : V) (p : Plc), vs = [x] ∧ At H x (posD p) ∧ Q (.bl true) H
theorem scIsPlace : FnScope ["_law_found"] ["_law_found"] (defScope sIsPlace) := ⟨rfl, rfl, rfl, by decide +kernel, rfl, by decide +kernel, by decide +kernel⟩
theorem ok_isPlace {f : Addr} {fd : FuncData} (F : Fun K "_law_is_place" "_law_is_place" sIsPlace f fd) (T : Txt mg) (C__law_whole : Cal P w K mg base 1 "_law_whole" ["_law_found"] spWhole) : FnOk P w K mg base CX0 2 f fd ["_law_found"] spIsPlace := by
  refine F.ok scIsPlace (fun vs H Q E h => ?_) (fun cdv A outer s H vs Q E hr h => ?_)
  · obtain ⟨x, p, rfl, _⟩ := h
    rfl
  · obtain ⟨x, p, rfl, hx, q⟩ := h
    have hr_ : ∀ {j : Nat}, j ≤ 1 → Room j _ := fun h => hr.mono h
    obtain ⟨a, rfl, ha⟩ := hx.pos
    refine ⟨_, (pss_cons (ps_if (PW.pt (pw_or (pt_not (pt_val (pe_callB isi_tuple rfl T.n_isinstance b_isinstance (pa_cons (pv 0) (pa_cons (pe_ty "tuple" rfl T.n_tuple b_tuple) pa_nil))))) (pw_or1 (pt_cmpR op_ne (pe_callB (len_K (K := K) rfl) rfl T.n_len b_len (pa_cons (pv 0) pa_nil)) pe_int (nomark _)))))
       (pss_one (ps_ret pe_bl))
       pss_nil)
      (pss_cons (ps_if (PW.pt (pw_or (pt_not (pt_val (pe_call C__law_whole.ok (hr_ (by decide)) rfl C__law_whole.mg C__law_whole.kp C__law_whole.b .nil pass0 (pa_cons (pe_ix (ix_K (K := K) rfl) (pv 0) pe_int (fun _ _ => rfl)) pa_nil)))) (pw_or1 (pt_not (pt_val (pe_call C__law_whole.ok (hr_ (by decide)) rfl C__law_whole.mg C__law_whole.kp C__law_whole.b .nil pass0 (pa_cons (pe_ix (ix_K (K := K) rfl) (pv 0) pe_int (fun _ _ => rfl)) pa_nil)))))))
       (pss_one (ps_ret pe_bl))
       pss_nil)
      (pss_one (ps_ret (pe_callB isi_str rfl T.n_isinstance b_isinstance (pa_cons (pe_ix (ix_K (K := K) rfl) (pv 0) pe_int (fun _ _ => rfl)) (pa_cons (pe_ty "str" rfl T.n_str b_str) pa_nil))))))), ?_⟩
    refine ⟨_, rfl, _, _, rfl, hx, _, rfl, ?_⟩
    refine iteF ?_
    refine ⟨_, rfl, a, _, rfl, .inr (SqT.of ha), rfl, _, rfl, iteF ?_⟩
    refine ⟨_, rfl, .inr (.inl ⟨a, _, 0, .int p.f, rfl, rfl, SqT.of ha, atI_nat (j := 0) rfl, _, _, rfl, .int _, _, rfl, ?_⟩)⟩
    refine iteF ?_
    refine ⟨_, rfl, .inr (.inl ⟨a, _, 1, .int p.h, rfl, rfl, SqT.of ha, atI_nat (j := 1) rfl, _, _, rfl, .int _, _, rfl, ?_⟩)⟩
    refine iteF ?_
    refine ⟨_, rfl, .inr (.inl ⟨a, _, 2, .str (sd p.t), rfl, rfl, SqT.of ha, atI_nat (j := 2) rfl, _, _, rfl, .str (sd_can _), q⟩)⟩
/-! ### _law_is_entry -/
def spIsEntry : Sp := fun vs H Q _ => ∃ (x : V) (p : Plc) (v : Val) (m : Option Int), vs = [x] ∧ At H x (entG p v m) ∧ Q (.bl true) H
theorem scIsEntry : FnScope ["_law_found"] ["_law_found"] (defScope sIsEntry) := ⟨rfl, rfl, rfl, by decide +kernel, rfl, by decide +kernel, by decide +kernel⟩
theorem ok_isEntry {f : Addr} {fd : FuncData} (F : Fun K "_law_is_entry" "_law_is_entry" sIsEntry f fd) (T : Txt mg) (C__law_whole : Cal P w K mg base 1 "_law_whole" ["_law_found"] spWhole) (C__law_is_place : Cal P w K mg base 2 "_law_is_place" ["_law_found"] spIsPlace) :
    FnOk P w K mg base CX0 3 f fd ["_law_found"] spIsEntry := by
  refine F.ok scIsEntry (fun vs H Q E h => ?_) (fun cdv A outer s H vs Q E hr h => ?_)
  · obtain ⟨x, p, v, m, rfl, _⟩ := h
    rfl
  · obtain ⟨x, p, v, m, rfl, hx, q⟩ := h
    have hr_ : ∀ {j : Nat}, j ≤ 2 → Room j _ := fun h => hr.mono h
    obtain ⟨a, b, rfl, ha, hb⟩ := hx.ent
    refine ⟨_, (pss_cons (ps_if (PW.pt (pw_or (pt_not (pt_val (pe_callB isi_tuple rfl T.n_isinstance b_isinstance (pa_cons (pv 0) (pa_cons (pe_ty "tuple" rfl T.n_tuple b_tuple) pa_nil))))) (pw_or1 (pt_cmpR op_ne (pe_callB (len_K (K := K) rfl) rfl T.n_len b_len (pa_cons (pv 0) pa_nil)) pe_int (nomark _)))))
       (pss_one (ps_ret pe_bl))
       pss_nil)
      (pss_cons (ps_if (PW.pt (pw_or (pt_not (pt_val (pe_call C__law_is_place.ok (hr_ (by decide)) rfl C__law_is_place.mg C__law_is_place.kp C__law_is_place.b .nil pass0 (pa_cons (pe_ix (ix_K (K := K) rfl) (pv 0) pe_int (fun _ _ => rfl)) pa_nil)))) (pw_or1 (pt_not (pt_val (pe_callB isi_str rfl T.n_isinstance b_isinstance (pa_cons (pe_ix (ix_K (K := K) rfl) (pv 0) pe_int (fun _ _ => rfl)) (pa_cons (pe_ty "str" rfl T.n_str b_str) pa_nil))))))))
       (pss_one (ps_ret pe_bl))
       pss_nil)
      (pss_cons (ps_if (PW.pt (pw_and (pt_cmp (pc_notN (pe_ix (ix_K (K := K) rfl) (pv 0) pe_int (fun _ _ => rfl)))) (pw_and1 (pt_not (pt_val (pe_call C__law_whole.ok (hr_ (by decide)) rfl C__law_whole.mg C__law_whole.kp C__law_whole.b .nil pass0 (pa_cons (pe_ix (ix_K (K := K) rfl) (pv 0) pe_int (fun _ _ => rfl)) pa_nil)))))))
       (pss_one (ps_ret pe_bl))
       pss_nil)
      (pss_one (ps_ret (pe_or (pe_cmp (pc_isN (pe_ix (ix_K (K := K) rfl) (pv 0) pe_int (fun _ _ => rfl)))) (pe_one (pe_call C__law_whole.ok (hr_ (by decide)) rfl C__law_whole.mg C__law_whole.kp C__law_whole.b .nil pass0 (pa_cons (pe_ix (ix_K (K := K) rfl) (pv 0) pe_int (fun _ _ => rfl)) pa_nil))))))))), ?_⟩
    refine ⟨_, rfl, _, _, rfl, hx, _, rfl, ?_⟩
    refine iteF ?_
    refine ⟨_, rfl, a, _, rfl, .inr (SqT.of ha), rfl, _, rfl, iteF ?_⟩
    refine ⟨_, rfl, .inr (.inl ⟨a, _, 0, .ref b, rfl, rfl, SqT.of ha, atI_nat (j := 0) rfl, _, p, rfl, pos_at hb, _, rfl, ?_⟩)⟩
    refine iteF ?_
    refine ⟨_, rfl, .inr (.inl ⟨a, _, 1, .str (whoS v), rfl, rfl, SqT.of ha, atI_nat (j := 1) rfl, _, _, rfl, .str (who_can _), _, rfl, ?_⟩)⟩
    refine iteF ?_
    refine ⟨_, rfl, .inr (.inl ⟨a, _, 2, cntV v, rfl, rfl, SqT.of ha, atI_nat (j := 2) rfl, _, rfl, ?_⟩)⟩
    rw [cnt_non]
    cases v with
    | none =>
      refine iteF (iteF ?_)
      refine ⟨_, rfl, .inr (.inl ⟨a, _, 3, mvV m, rfl, rfl, SqT.of ha, atI_nat (j := 3) rfl, _, rfl, ?_⟩)⟩
      rw [mv_non]
      cases m with
      | none => exact iteT q
      | some y => exact iteF ⟨_, rfl, .inr (.inl ⟨a, _, 3, .int y, rfl, rfl, SqT.of ha, atI_nat (j := 3) rfl, _, _, rfl, .int _, q⟩)⟩
    | some w =>
      refine iteT ?_
      refine ⟨_, rfl, .inr (.inl ⟨a, _, 2, .int w.2, rfl, rfl, SqT.of ha, atI_nat (j := 2) rfl, _, _, rfl, .int _, _, rfl, ?_⟩)⟩
      refine iteF ?_
      refine ⟨_, rfl, .inr (.inl ⟨a, _, 3, mvV m, rfl, rfl, SqT.of ha, atI_nat (j := 3) rfl, _, rfl, ?_⟩)⟩
      rw [mv_non]
      cases m with
      | none => exact iteT q
      | some y => exact iteF ⟨_, rfl, .inr (.inl ⟨a, _, 3, .int y, rfl, rfl, SqT.of ha, atI_nat (j := 3) rfl, _, _, rfl, .int _, q⟩)⟩
/-! ### _law_table_of -/
def spTableOf : Sp := fun vs H Q _ => ∃ (G : Hp) (x : V) (n : Nat) (d : Plc → PyData), vs = [x, .int n] ∧ Same G H ∧ 1 ≤ n ∧ n ≤ 7 ∧ (∀ p, ∃ v m, d p = entG p v m) ∧ At G x (.list ((allPos n).map d)) ∧
  ∀ (G' H' : Hp) (ka : Addr) (kvs : List (List Key × V)), Ext G H G' H' → Own H G' H' ka (.dT kvs) → TellsD G' kvs (allPos n) d → Q (.ref ka) H'
theorem scTableOf : FnScope ["_law_found", "_law_count", "_law_table", "_law_k", "_law_due"] ["_law_found", "_law_count"] (defScope sTableOf) := ⟨rfl, rfl, rfl, by decide +kernel, rfl, by decide +kernel, by decide +kernel⟩
theorem ok_tableOf {f : Addr} {fd : FuncData} (F : Fun K "_law_table_of" "_law_table_of" sTableOf f fd) (T : Txt mg) (C__law_is_entry : Cal P w K mg base 3 "_law_is_entry" ["_law_found"] spIsEntry) :
    FnOk P w K mg base CX0 4 f fd ["_law_found", "_law_count"] spTableOf := by
  refine F.ok scTableOf (fun vs H Q E h => ?_) (fun cdv A outer s H vs Q E hr h => ?_)
  · obtain ⟨G, x, n, d, rfl, _⟩ := h
    rfl
  · obtain ⟨G, x, n, d, rfl, hG, hn1, hn7, hd, hx, q⟩ := h
    have hr_ : ∀ {j : Nat}, j ≤ 3 → Room j _ := fun h => hr.mono h
    have np := allPos_nodup n
    cases hx with
    | lst hxa al =>
    rename_i a xs
    have exl : xs.length = 2 * n * n := by rw [al.length, List.length_map, allPos_len]
    have cm : CMul 2 (n : Int) := .inl ⟨by decide, by decide⟩
    have cm2 : CMul (2 * (n : Int)) (n : Int) := .inr ⟨by omega, by omega⟩
    have h98 : 2 * n * n ≤ 2 * 7 * 7 := Nat.mul_le_mul (Nat.mul_le_mul_left _ hn7) hn7
    have eN : (2 * (n : Int) * (n : Int)) = ((2 * n * n : Nat) : Int) := by push_cast; rfl
    refine ⟨_, (pss_cons (ps_if (PW.pt (pw_or (pt_not (pt_val (pe_callB isi_list rfl T.n_isinstance b_isinstance (pa_cons (pv 0) (pa_cons (pe_ty "list" rfl T.n_list b_list) pa_nil))))) (pw_or1 (pt_cmpR op_ne (pe_callB (len_K (K := K) rfl) rfl T.n_len b_len (pa_cons (pv 0) pa_nil)) (pe_op op_mul (pe_op op_mul pe_int (pv 1)) (pv 1)) (nomark _)))))
       (pss_one (ps_ret pe_non))
       pss_nil)
      (pss_cons (ps_set (i := 2) scTableOf.nd rfl (Or.inl rfl) pe_dnewT)
      (pss_cons (ps_for PassesOwn.never rfl (pi_range1 rfl T.n_range (pa_cons (pe_callB (len_K (K := K) rfl) rfl T.n_len b_len (pa_cons (pv 0) pa_nil)) pa_nil)) (pg_name (i := 3) scTableOf.nd rfl (Or.inl rfl))
       (pss_cons (ps_if (pt_not (pt_val (pe_call C__law_is_entry.ok (hr_ (by decide)) rfl C__law_is_entry.mg C__law_is_entry.kp C__law_is_entry.b .nil pass0 (pa_cons (pe_ix (ix_K (K := K) rfl) (pv 0) (pv 3) (fun _ _ => rfl)) pa_nil))))
         (pss_one (ps_ret pe_non))
         pss_nil)
        (pss_cons (ps_set (i := 4) scTableOf.nd rfl (Or.inl rfl) (pe_tup (pa_cons (pe_op op_fdiv (pv 3) (pe_op op_mul pe_int (pv 1))) (pa_cons (pe_op op_mod (pe_op op_fdiv (pv 3) pe_int) (pv 1)) (pa_cons (pe_ix (ix_K (K := K) rfl) (pe_lst (pa_cons pe_str (pa_cons pe_str pa_nil))) (pe_op op_mod (pv 3) pe_int) (fun _ _ => rfl)) pa_nil)))))
        (pss_cons (ps_if (pt_cmpR (op_neD hr) (pe_ix (ix_K (K := K) rfl) (pe_ix (ix_K (K := K) rfl) (pv 0) (pv 3) (fun _ _ => rfl)) pe_int (fun _ _ => rfl)) (pv 4) (nomark _))
         (pss_one (ps_ret pe_non))
         pss_nil)
        (pss_one (ps_dput (hu_of hr) (pv 2) (pv 4) (pe_ix (ix_K (K := K) rfl) (pv 0) (pv 3) (fun _ _ => rfl)) rfl))))))
      (pss_one (ps_ret (pv 2)))))), ?_⟩
    refine ⟨_, rfl, _, _, rfl, .lst (hG _ _ hxa) (al.mono hG), _, rfl, iteF ?_⟩
    refine ⟨_, rfl, a, _, rfl, .inl (SqL.of (hG _ _ hxa)), _, rfl, _, _, rfl, rfl, cm, _, rfl, _, _, rfl, rfl, cm2, rfl, _, rfl, ?_⟩
    refine iteNS (by show V.int _ = V.int (2 * (n : Int) * (n : Int)); rw [exl, eN]) ?_
    intro ka hka
    have x1 := (Ext.refl hG).lay (o := .dT []) hka
    have k1 := Own.fresh (o := .dT []) (Ext.refl hG) hka
    generalize upd H ka (.dT []) = H1 at x1 k1
    refine ⟨_, rfl, a, _, rfl, .inl (SqL.of (x1.gh _ _ hxa)), _, rfl, by omega, by omega, ?_⟩
    rw [show ((xs.length : Int)).toNat = 2 * n * n by omega]
    refine for_range (lo := 0) (n := 2 * n * n) (fun i σ H' => ∃ (v3 v4 : Option V) (G1 : Hp) (kvs : List (List Key × V)), σ = [some (.ref a), some (.int n), some (.ref ka), v3, v4] ∧ Ext G H G1 H' ∧ Own H G1 H' ka (.dT kvs) ∧ TellsD G1 kvs ((allPos n).take i) d)
      ⟨none, none, G, [], rfl, x1, k1, rfl, List.nodup_nil, fun p hp => by cases hp⟩ ?_ ?_
    · rintro i σ H3 hi ⟨v3, v4, G1, kvs, rfl, x3, k3, t3⟩
      have ei : ((0 : Int) + (i : Int)) = (i : Int) := by omega
      show _
      rw [ei]
      have hq : (allPos n)[i]? = some (posAt n i) := by
        unfold allPos
        rw [List.getElem?_map, List.getElem?_range hi]
        rfl
      have hxi : xs[i]? = some xs[i] := List.getElem?_eq_getElem (by omega)
      generalize xs[i] = xv at hxi
      obtain ⟨de, hde, ad⟩ := (al.mono x3.gg).get' hxi
      rw [List.getElem?_map, hq] at hde
      have hde : d (posAt n i) = de := Option.some.inj hde
      subst hde
      obtain ⟨pv, pm, epd⟩ := hd (posAt n i)
      have ad2 := ad
      rw [epd] at ad2
      obtain ⟨c1, c2, rfl, hc1, hc2⟩ := ad2.ent
      have hxa3 := x3.gh _ _ (x3.gg _ _ hxa)
      refine ⟨_, rfl, _, rfl, .inl ⟨a, _, (i : Int), .ref c1, rfl, rfl, SqL.of hxa3, atI_nat hxi, _, _, pv, pm, rfl, ad2.mono x3.gh, _, rfl, iteF ?_⟩⟩
      -- the place
      refine ⟨_, rfl, _, rfl, _, _, rfl, rfl, cm, _, _, rfl, rfl, ⟨by omega, by omega⟩, ?_⟩
      refine ⟨_, rfl, _, _, rfl, rfl, ⟨by decide, by decide⟩, _, rfl, _, _, rfl, rfl, by omega, ?_⟩
      refine ⟨by decide, fun q1 hq1 => ?_⟩
      have x4 := x3.lay (o := .lst [.str "fox", .str "hen"]) hq1
      have k4 := k3.lay (u := .lst [.str "fox", .str "hen"]) hq1
      have l4 : upd H3 q1 (.lst [.str "fox", .str "hen"]) q1 = some (.lst [.str "fox", .str "hen"]) := upd_same
      generalize upd H3 q1 (.lst [.str "fox", .str "hen"]) = H4 at x4 k4 l4
      refine ⟨_, rfl, _, _, rfl, rfl, (by show (0 : Int) < 2; decide), .inl ⟨q1, _, _, .str (sd (posAt n i).t), rfl, rfl, SqL.of l4, ?_, few (by show 3 ≤ 1000; decide), fun c hc => ?_⟩⟩
      · show atI _ ((i : Int) % 2) = some (V.str (sd (decide (i % 2 = 0))))
        rcases Nat.mod_two_eq_zero_or_one i with z | z
        · rw [show (i : Int) % 2 = ((0 : Nat) : Int) by omega, decide_eq_true z]
          exact atI_nat (j := 0) rfl
        · rw [show (i : Int) % 2 = ((1 : Nat) : Int) by omega, decide_eq_false (by omega)]
          exact atI_nat (j := 1) rfl
      have ef : (i : Int) / (2 * (n : Int)) = (posAt n i).f := by
        show _ = ((i / (2 * n) : Nat) : Int)
        push_cast
        rfl
      have eh : (i : Int) / 2 % (n : Int) = (posAt n i).h := by
        show _ = ((i / 2 % n : Nat) : Int)
        push_cast
        rfl
      have hnew := take_new np hq
      dsimp only [gName]
      rw [ef, eh]
      generalize posAt n i = pl at *
      have x5 := x4.put (o := .tup (posV pl)) hc
      have k5 := k4.put (u := .tup (posV pl)) hc
      have pc5 : upd G1 c (.tup (posV pl)) c = some (.tup (posV pl)) := upd_same
      have s5 : Same G1 (upd G1 c (.tup (posV pl))) := same_upd (x4.gh.free hc)
      show tSeq _ _ _ _ (upd H4 c (.tup (posV pl)))
      generalize upd H4 c (.tup (posV pl)) = H5 at x5 k5
      generalize upd G1 c (.tup (posV pl)) = G5 at x5 k5 pc5 s5
      have hxa5 := x5.gh _ _ (x5.gg _ _ hxa)
      have hc15 := x5.gh _ _ (s5 _ _ hc1)
      refine ⟨_, rfl, _, rfl, .inl ⟨a, _, (i : Int), .ref c1, rfl, rfl, SqL.of hxa5, atI_nat hxi, .inr (.inl ⟨c1, _, 0, .ref c2, rfl, rfl, SqT.of hc15, atI_nat (j := 0) rfl, _, rfl, posD pl, posD pl, pos_at (x5.gh _ _ (s5 _ _ hc2)), pos_at (x5.gh _ _ pc5), ?_, _, rfl, ?_⟩)⟩⟩
      · have := pos_depth pl
        omega
      rw [eqv_pos, decide_eq_true rfl]
      refine iteF ?_
      refine ⟨_, rfl, _, rfl, .inl ⟨a, _, (i : Int), .ref c1, rfl, rfl, SqL.of hxa5, atI_nat hxi, _, rfl, _, rfl, ka, _, rfl, DPut.t k5.is (k := posK pl) (x5.gh _ _ pc5) ?_, ?_⟩⟩
      · rw [t3.len, List.length_take]
        exact small1000 (by omega)
      refine ⟨_, _, G5, _, rfl, k5.write x5, k5.set, ?_⟩
      rw [List.take_add_one, hq]
      exact (t3.mono s5).put hnew (ad.mono s5)
    rintro σ H3 ⟨v3, v4, G1, kvs, rfl, x3, k3, t3⟩
    rw [← allPos_len, List.take_length] at t3
    exact ⟨_, rfl, q G1 H3 ka kvs x3 k3 t3⟩

def spAt : Sp := fun vs H Q _ => ∃ (a : Addr) (ns : List Int) (k : Nat), vs = [.ref a, .int k] ∧ H a = some (.lst (ns.map V.int)) ∧ Q (.int (atD ns k)) H
/-! ### _law_at -/
theorem scAt : FnScope ["_law_script", "_law_k"] ["_law_script", "_law_k"] (defScope sAt) := ⟨rfl, rfl, rfl, by decide +kernel, rfl, by decide +kernel, by decide +kernel⟩
theorem ok_at {f : Addr} {fd : FuncData} (F : Fun K "_law_at" "_law_at" sAt f fd) (T : Txt mg) : FnOk P w K mg base CX0 1 f fd ["_law_script", "_law_k"] spAt := by
  refine F.ok scAt (fun vs H Q E h => ?_) (fun cdv A outer s H vs Q E hr h => ?_)
  · obtain ⟨a, ns, k, rfl, _⟩ := h
    rfl
  · obtain ⟨a, ns, k, rfl, ha, q⟩ := h
    refine ⟨_, (pss_cons (ps_if (pt_cmpR op_lt (pv 1) (pe_callB (len_K (K := K) rfl) rfl T.n_len b_len (pa_cons (pv 0) pa_nil)) (nomark _))
       (pss_one (ps_ret (pe_ix (ix_K (K := K) rfl) (pv 0) (pv 1) (fun _ _ => rfl))))
       pss_nil)
      (pss_one (ps_ret pe_int))), ?_⟩
    refine ⟨_, rfl, _, rfl, a, _, rfl, .inl (SqL.of ha), _, _, rfl, rfl, _, rfl, ?_⟩
    refine ite2 (fun hlt => ?_) (fun hge => ?_)
    · have hk : k < ns.length := by
        have := of_decide_eq_true hlt
        rw [List.length_map] at this
        omega
      refine ⟨_, rfl, _, rfl, .inl ⟨a, _, (k : Int), .int (atD ns k), rfl, rfl, SqL.of ha, atI_nat ?_, q⟩⟩
      rw [List.getElem?_map, List.getElem?_eq_getElem hk]
      unfold atD
      rw [List.getD_eq_getElem?_getD, List.getElem?_eq_getElem hk]
      rfl
    · have hk : ns.length ≤ k := by
        have : ¬ ((k : Int) < ((ns.map V.int).length : Int)) := fun z => hge (decide_eq_true z)
        rw [List.length_map] at this
        omega
      have e : atD ns k = 0 := by
        unfold atD
        rw [List.getD_eq_getElem?_getD, List.getElem?_eq_none hk]
        rfl
      rw [e] at q
      exact q

def spBoard (menu : List Int) : Sp := fun vs H Q _ => ∃ (G : Hp) (a : Addr) (ns : List Int), vs = [.ref a] ∧ Same G H ∧ G a = some (.lst (ns.map V.int)) ∧ ns.length ≤ 63 ∧
  ∀ (G' H' : Hp) (r : V), Ext G H G' H' → At G' r (boardD (boardOf menu ns)) → Q r H'
/-! ### _law_board_by -/
theorem scBoard : FnScope ["_law_script", "_law_count", "_law_seed", "_law_lanes", "_law_outs", "_law_k", "_law_one", "_law_lane", "_law_coops", "_law_yard", "_law_coop"] ["_law_script"] (defScope sBoard) := ⟨rfl, rfl, rfl, by decide +kernel, rfl, by decide +kernel, by decide +kernel⟩
/-- between two turns of the lanes' loop -/
structure LanesAt (G H G1 H1 : Hp) (la oa : Addr) (lanes : List (Int × Int)) (outs : List Int) : Prop where
  x : Ext G H G1 H1
  ne : la ≠ oa
  l : ∃ xs, Own H G1 H1 la (.lst xs) ∧ AtAll G1 xs (lanes.map laneD)
  o : Own H G1 H1 oa (.lst (outs.map V.int))
/-- between two turns of the coops' loop -/
structure CoopsAt (G H G1 H1 : Hp) (la ca : Addr) (lanes : List (Int × Int)) (coops : List Int) : Prop where
  x : Ext G H G1 H1
  ne : la ≠ ca
  l : ∃ xs, Own H G1 H1 la (.lst xs) ∧ AtAll G1 xs (lanes.map laneD)
  c : Own H G1 H1 ca (.lst (coops.map V.int))
theorem ok_board {f : Addr} {fd : FuncData} (F : Fun K "_law_board_by" "_law_board_by" sBoard f fd) (T : Txt mg) (C__law_at : Cal P w K mg base 1 "_law_at" ["_law_script", "_law_k"] spAt) : FnOk P w K mg base CX0 2 f fd ["_law_script"] (spBoard menuB) := by
  refine F.ok scBoard (fun vs H Q E h => ?_) (fun cdv A outer s H vs Q E hr h => ?_)
  · obtain ⟨G, a, ns, rfl, _⟩ := h
    rfl
  · obtain ⟨G, a, ns, rfl, hG, ha, hlen, q⟩ := h
    have hr_ : ∀ {j : Nat}, j ≤ 1 → Room j _ := fun h => hr.mono h
    have ha0 := hG _ _ ha
    refine ⟨_, (pss_cons (ps_set (i := 1) scBoard.nd rfl (Or.inl rfl) (pe_ix (ix_K (K := K) rfl) (pe_lst (pa_cons pe_int (pa_cons pe_int (pa_cons pe_int (pa_cons pe_int (pa_cons pe_int (pa_cons pe_int (pa_cons pe_int (pa_cons pe_int pa_nil))))))))) (pe_op op_mod (pe_call C__law_at.ok (hr_ (by decide)) rfl C__law_at.mg C__law_at.kp C__law_at.b .nil pass0 (pa_cons (pv 0) (pa_cons pe_int pa_nil))) pe_int) (fun _ _ => rfl)))
      (pss_cons (ps_if (pt_cmpR op_gt (pe_callB (len_K (K := K) rfl) rfl T.n_len b_len (pa_cons (pv 0) pa_nil)) pe_int (nomark _))
       (pss_one (ps_set (i := 1) scBoard.nd rfl (Or.inl rfl) (pe_op op_add pe_int (pe_op op_mod (pe_call C__law_at.ok (hr_ (by decide)) rfl C__law_at.mg C__law_at.kp C__law_at.b .nil pass0 (pa_cons (pv 0) (pa_cons pe_int pa_nil))) pe_int))))
       pss_nil)
      (pss_cons (ps_set (i := 2) scBoard.nd rfl (Or.inl rfl) (pe_call C__law_at.ok (hr_ (by decide)) rfl C__law_at.mg C__law_at.kp C__law_at.b .nil pass0 (pa_cons (pv 0) (pa_cons pe_int pa_nil))))
      (pss_cons (ps_set (i := 3) scBoard.nd rfl (Or.inl rfl) (pe_lst pa_nil))
      (pss_cons (ps_set (i := 4) scBoard.nd rfl (Or.inl rfl) (pe_op op_rep (pe_lst (pa_cons pe_int pa_nil)) (pv 1)))
      (pss_cons (ps_for PassesOwn.never rfl (pi_range2 rfl T.n_range (pa_cons pe_int (pa_cons (pe_callB (len_K (K := K) rfl) rfl T.n_len b_len (pa_cons (pv 0) pa_nil)) pa_nil))) (pg_name (i := 5) scBoard.nd rfl (Or.inl rfl))
       (pss_cons (ps_set (i := 6) scBoard.nd rfl (Or.inl rfl) (pe_op op_mod (pe_op op_add (pe_op op_fdiv (pe_ix (ix_K (K := K) rfl) (pv 0) (pv 5) (fun _ _ => rfl)) pe_int) (pv 5)) (pv 1)))
        (pss_cons (ps_set (i := 7) scBoard.nd rfl (Or.inl rfl) (pe_tup (pa_cons (pv 6) (pa_cons (pe_op op_mod (pe_op op_add (pe_ix (ix_K (K := K) rfl) (pv 0) (pv 5) (fun _ _ => rfl)) (pe_op op_fdiv (pv 5) (pv 1))) (pv 1)) pa_nil))))
        (pss_one (ps_if (PW.pt (pw_and (pt_cmpR (op_notInD hr) (pv 7) (pv 3) (by with_unfolding_all rfl)) (pw_and1 (pt_cmpR op_lt (pe_ix (ix_K (K := K) rfl) (pv 4) (pv 6) (fun _ _ => rfl)) (pe_ix (ix_K (K := K) rfl) (pe_lst (pa_cons pe_int (pa_cons pe_int (pa_cons pe_int (pa_cons pe_int pa_nil))))) (pe_op op_mod (pv 2) pe_int) (fun _ _ => rfl)) (nomark _)))))
         (pss_cons (ps_expr (append_K (K := K) rfl (pv 3) (pa_cons (pv 7) pa_nil)))
          (pss_one (ps_asg (pe_op op_add (pe_ix (ix_K (K := K) rfl) (pv 4) (pv 6) (fun _ _ => rfl)) pe_int) (pg_sub (pv 4) (pv 6) set_list))))
         pss_nil)))))
      (pss_cons (ps_set (i := 8) scBoard.nd rfl (Or.inl rfl) (pe_lst pa_nil))
      (pss_cons (ps_for PassesOwn.never rfl (pi_range1 rfl T.n_range (pa_cons (pv 1) pa_nil)) (pg_name (i := 9) scBoard.nd rfl (Or.inl rfl))
       (pss_cons (ps_set (i := 10) scBoard.nd rfl (Or.inl rfl) (pe_and (pe_cmpR op_ne (pe_op op_mod (pe_op op_fdiv (pv 2) pe_int) pe_int) pe_int (nomark _)) (pe_one (pe_cmpR op_eq (pe_op op_mod (pe_op op_add (pe_op op_fdiv (pv 2) pe_int) (pv 9)) pe_int) pe_int (nomark _)))))
        (pss_cons (ps_if (pt_cmpR op_eq (pe_op op_mod (pe_op op_fdiv (pv 2) pe_int) pe_int) pe_int (nomark _))
         (pss_one (ps_set (i := 10) scBoard.nd rfl (Or.inl rfl) (pe_cmpR op_eq (pe_op op_mod (pe_op op_fdiv (pv 2) (pe_ix (ix_K (K := K) rfl) (pe_lst (pa_cons pe_int (pa_cons pe_int (pa_cons pe_int (pa_cons pe_int (pa_cons pe_int (pa_cons pe_int (pa_cons pe_int pa_nil)))))))) (pv 9) (fun _ _ => rfl))) pe_int) pe_int (nomark _))))
         pss_nil)
        (pss_one (ps_if (pt_val (pv 10))
         (pss_one (ps_expr (append_K (K := K) rfl (pv 8) (pa_cons (pv 9) pa_nil))))
         pss_nil)))))
      (pss_one (ps_ret (pe_tup (pa_cons (pv 1) (pa_cons (pv 3) (pa_cons (pv 8) pa_nil)))))))))))))), ?_⟩
    -- _law_count = [..][_law_at(_law_script, 0) % 8]
    have hn := cnt_pos (menu := menuB) (ns := ns) (.inr rfl)
    refine ⟨by decide, fun p1 h1 => ?_⟩
    have x1 : Ext G H G (upd H p1 (.lst [.int 2, .int 3, .int 4, .int 5, .int 1, .int 3, .int 4, .int 5])) := (Ext.refl hG).lay h1
    generalize eH1 : upd H p1 (.lst [.int 2, .int 3, .int 4, .int 5, .int 1, .int 3, .int 4, .int 5]) = H1 at x1
    have l1 : H1 p1 = some (.lst (menuB.map V.int)) := by rw [← eH1]; exact upd_same
    refine ⟨_, rfl, a, ns, 0, rfl, x1.hh _ _ ha0, _, _, rfl, rfl, (by show (0 : Int) < 8; decide), .inl ⟨p1, _, _, .int (cntOf menuB ns), rfl, rfl, SqL.of l1, atI_toNat (Int.emod_nonneg _ (by decide)) (mod_lt8 _), ?_⟩⟩
    -- if len(_law_script) > 63
    refine ⟨_, rfl, a, _, rfl, .inl (SqL.of (x1.hh _ _ ha0)), _, _, rfl, rfl, _, rfl, ?_⟩
    rw [show decide ((((ns.map V.int).length : Nat) : Int) > 63) = false from decide_eq_false (by rw [List.length_map]; omega)]
    refine iteF ?_
    -- _law_seed = _law_at(_law_script, 1)
    refine ⟨_, rfl, a, ns, 1, rfl, x1.hh _ _ ha0, ?_⟩
    -- _law_lanes = []
    refine ⟨by decide, fun la hla => ?_⟩
    have wl := Own.fresh (o := .lst []) x1 hla
    have x2 := x1.lay (o := .lst []) hla
    generalize upd H1 la (.lst []) = H2 at wl x2
    -- _law_outs = [0] * _law_count
    refine ⟨by decide, fun p2 h2 => ?_⟩
    have wl3 := wl.lay (u := .lst [.int 0]) h2
    have x3 := x2.lay (o := .lst [.int 0]) h2
    have l3 : upd H2 p2 (.lst [.int 0]) p2 = some (.lst [.int 0]) := upd_same
    generalize upd H2 p2 (.lst [.int 0]) = H3 at wl3 x3 l3
    refine ⟨_, rfl, p2, cntOf menuB ns, [.int 0], rfl, rfl, l3, by omega, by omega, ?_, fun oa hoa => ?_⟩
    · have := hn.2
      have e : ([V.int 0].length * (cntOf menuB ns).toNat) ≤ 7 := by
        show 1 * _ ≤ 7
        omega
      exact Nat.le_trans e (by decide)
    have er : (List.replicate (cntOf menuB ns).toNat [V.int 0]).flatten = (List.replicate (cntOf menuB ns).toNat (0 : Int)).map V.int := by
      generalize (cntOf menuB ns).toNat = m
      induction m with
      | zero => rfl
      | succ m ih => rw [List.replicate_succ, List.flatten_cons, ih, List.replicate_succ, List.map_cons]; rfl
    rw [er]
    have wo := Own.fresh (o := .lst ((List.replicate (cntOf menuB ns).toNat (0 : Int)).map V.int)) x3 hoa
    have wl4 := wl3.lay (u := .lst ((List.replicate (cntOf menuB ns).toNat (0 : Int)).map V.int)) hoa
    have x4 := x3.lay (o := .lst ((List.replicate (cntOf menuB ns).toNat (0 : Int)).map V.int)) hoa
    have neo : la ≠ oa := ne_of_none wl3.is hoa
    generalize upd H3 oa (.lst ((List.replicate (cntOf menuB ns).toNat (0 : Int)).map V.int)) = H4 at wo wl4 x4
    generalize hn0 : cntOf menuB ns = n at *
    -- for _law_k in range(2, len(_law_script))
    refine ⟨_, rfl, a, _, rfl, .inl (SqL.of (x4.hh _ _ ha0)), 2, _, rfl, ⟨by omega, by omega, by omega, by rw [List.length_map]; omega⟩, ?_⟩
    have ez : ((((ns.map V.int).length : Nat) : Int) - 2).toNat = ns.length - 2 := by rw [List.length_map]; omega
    rw [ez]
    refine for_range (lo := 2) (n := ns.length - 2) (fun i σ H' => ∃ (v5 v6 v7 : Option V) (G1 : Hp), σ = [some (.ref a), some (.int n), some (.int (atD ns 1)), some (.ref la), some (.ref oa), v5, v6, v7, none, none, none] ∧
      LanesAt G H G1 H' la oa (runL n (limOf (atD ns 1)) ns i).1 (runL n (limOf (atD ns 1)) ns i).2) ⟨none, none, none, G, rfl, x4, neo, ⟨[], wl4, .nil⟩, wo⟩ ?_ ?_
    · rintro i σ H5 hi ⟨v5, v6, v7, G1, rfl, L⟩
      obtain ⟨x5, _, ⟨xs, wl5, ax⟩, wo5⟩ := L
      have hk : i + 2 < ns.length := by omega
      have ek : ((2 : Int) + (i : Int)) = ((i + 2 : Nat) : Int) := by omega
      have gl := runL_good (lim := limOf (atD ns 1)) (ns := ns) hn.1 i
      have lin := laneOf_in hn.1 (atD ns (i + 2)) (i + 2)
      have ha5 := x5.hh _ _ ha0
      show _
      rw [ek]
      -- _law_one
      refine ⟨_, rfl, _, rfl, .inl ⟨a, _, ((i + 2 : Nat) : Int), _, rfl, rfl, SqL.of ha5, atI_int hk, _, _, rfl, rfl, ⟨by decide, by decide⟩, _, rfl, _, _, rfl, rfl, _, rfl, _, _, rfl, rfl, (by omega), ?_⟩⟩
      -- _law_lane
      refine ⟨_, rfl, _, rfl, _, rfl, .inl ⟨a, _, ((i + 2 : Nat) : Int), _, rfl, rfl, SqL.of ha5, atI_int hk, _, rfl, _, rfl, _, _, rfl, rfl, ⟨by omega, by omega⟩, _, _, rfl, rfl, _, rfl, _, _, rfl, rfl, (by omega), few (by show 2 ≤ 1000; decide), fun p hp => ?_⟩⟩
      have x6 := x5.put (o := .tup [.int (laneOf n (atD ns (i + 2)) (i + 2)).1, .int (laneOf n (atD ns (i + 2)) (i + 2)).2]) hp
      have wl6 := wl5.put (u := .tup [.int (laneOf n (atD ns (i + 2)) (i + 2)).1, .int (laneOf n (atD ns (i + 2)) (i + 2)).2]) hp
      have wo6 := wo5.put (u := .tup [.int (laneOf n (atD ns (i + 2)) (i + 2)).1, .int (laneOf n (atD ns (i + 2)) (i + 2)).2]) hp
      have ax6 : AtAll (upd G1 p (.tup [.int (laneOf n (atD ns (i + 2)) (i + 2)).1, .int (laneOf n (atD ns (i + 2)) (i + 2)).2])) xs ((runL n (limOf (atD ns 1)) ns i).1.map laneD) := ax.mono (same_upd (x5.gh.free hp))
      have al6 : At (upd G1 p (.tup [.int (laneOf n (atD ns (i + 2)) (i + 2)).1, .int (laneOf n (atD ns (i + 2)) (i + 2)).2])) (.ref p) (laneD (laneOf n (atD ns (i + 2)) (i + 2))) := .tup upd_same (.cons (.int _) (.cons (.int _) .nil))
      have e1 : (atD ns (i + 2) / 7 + ((i + 2 : Nat) : Int)) % n = (laneOf n (atD ns (i + 2)) (i + 2)).1 := rfl
      have e2 : (atD ns (i + 2) + ((i + 2 : Nat) : Int) / n) % n = (laneOf n (atD ns (i + 2)) (i + 2)).2 := rfl
      dsimp only [gName]
      rw [e1, e2]
      generalize upd H5 p (.tup [.int (laneOf n (atD ns (i + 2)) (i + 2)).1, .int (laneOf n (atD ns (i + 2)) (i + 2)).2]) = H6 at *
      generalize upd G1 p (.tup [.int (laneOf n (atD ns (i + 2)) (i + 2)).1, .int (laneOf n (atD ns (i + 2)) (i + 2)).2]) = G6 at *
      have rs : runL n (limOf (atD ns 1)) ns (i + 1) = stepL n (limOf (atD ns 1)) ns (runL n (limOf (atD ns 1)) ns i) (i + 2) := rfl
      generalize hst : runL n (limOf (atD ns 1)) ns i = st at *
      generalize hln : laneOf n (atD ns (i + 2)) (i + 2) = ln at *
      -- _law_lane not in _law_lanes
      refine ⟨_, rfl, _, rfl, _, _, al6.mono x6.gh, .inl (.lst wl6.is (ax6.mono x6.gh)), lane_depth _, _, rfl, ?_⟩
      have eany : (if true = true then !((st.1.map laneD).any fun e => PyData.eqv e (laneD ln)) else (st.1.map laneD).any fun e => PyData.eqv e (laneD ln)) = !decide (ln ∈ st.1) := by rw [if_pos rfl, any_lane]
      rw [eany]
      by_cases hin : ln ∈ st.1
      · rw [decide_eq_true hin]
        have es : stepL n (limOf (atD ns 1)) ns st (i + 2) = st := by
          unfold stepL
          rw [hln, if_neg (fun z => z.1 hin)]
        refine iteF (iteF ⟨_, _, _, G6, rfl, ?_⟩)
        rw [rs, es]
        exact ⟨x6, neo, ⟨xs, wl6, ax6⟩, wo6⟩
      · rw [decide_eq_false hin]
        refine iteT ?_
        -- _law_outs[_law_one] < [1, 2, 3, 7][_law_seed % 4]
        have ho : ln.1.toNat < st.2.length := by rw [gl.outs]; omega
        refine ⟨_, rfl, _, rfl, .inl ⟨oa, _, ln.1, _, rfl, rfl, SqL.of wo6.is, atI_toNat lin.1.1 ho, by decide, fun p3 h3 => ?_⟩⟩
        have x7 := x6.lay (o := .lst [.int 1, .int 2, .int 3, .int 7]) h3
        have wl7 := wl6.lay (u := .lst [.int 1, .int 2, .int 3, .int 7]) h3
        have wo7 := wo6.lay (u := .lst [.int 1, .int 2, .int 3, .int 7]) h3
        have l7 : upd H6 p3 (.lst [.int 1, .int 2, .int 3, .int 7]) p3 = some (.lst (([1, 2, 3, 7] : List Int).map V.int)) := upd_same
        generalize upd H6 p3 (.lst [.int 1, .int 2, .int 3, .int 7]) = H7 at *
        refine ⟨_, rfl, _, _, rfl, rfl, (by show (0 : Int) < 4; decide), .inl ⟨p3, _, _, .int (limOf (atD ns 1)), rfl, rfl, SqL.of l7, atI_toNat (Int.emod_nonneg _ (by decide)) (by show (_ % (4 : Int)).toNat < 4; omega), _, _, rfl, rfl, _, rfl, ?_⟩⟩
        refine ite2 (fun hc => ?_) (fun hc => ?_)
        · have hc : atD st.2 ln.1.toNat < limOf (atD ns 1) := of_decide_eq_true hc
          have es : stepL n (limOf (atD ns 1)) ns st (i + 2) = (st.1 ++ [ln], st.2.set ln.1.toNat (atD st.2 ln.1.toNat + 1)) := by
            unfold stepL
            rw [hln, if_pos ⟨hin, hc⟩]
            rfl
          -- append
          refine ⟨_, rfl, tyL wl7.is, _, rfl, la, xs, _, rfl, rfl, wl7.is, ?_, ?_⟩
          · have e1 := ax6.length
            rw [List.length_map] at e1
            have := gl.len
            exact small1000 (by omega)
          have x8 := wl7.write (u := .lst (xs ++ [.ref p])) x7
          have wl8 := wl7.set (u := .lst (xs ++ [.ref p]))
          have wo8 := wo7.other (u := .lst (xs ++ [.ref p])) neo.symm
          generalize upd H7 la (.lst (xs ++ [.ref p])) = H8 at *
          -- _law_outs[_law_one] = _law_outs[_law_one] + 1
          refine ⟨_, rfl, _, rfl, .inl ⟨oa, _, ln.1, _, rfl, rfl, SqL.of wo8.is, atI_toNat lin.1.1 ho, _, _, rfl, rfl, _, rfl, _, rfl, oa, _, ln.1, ln.1.toNat, rfl, rfl, wo8.is, ?_, ?_⟩⟩
          · unfold ixN
            rw [if_pos lin.1.1, if_pos (by rw [List.length_map]; omega)]
          refine ⟨_, _, _, G6, rfl, ?_⟩
          rw [rs, es]
          refine ⟨wo8.write x8, neo, ⟨xs ++ [.ref p], wl8.other neo, ?_⟩, ?_⟩
          · show AtAll G6 _ ((st.1 ++ [ln]).map laneD)
            rw [List.map_append]
            exact ax6.append (.one al6)
          · have e : (st.2.map V.int).set ln.1.toNat (.int (atD st.2 ln.1.toNat + 1)) = (st.2.set ln.1.toNat (atD st.2 ln.1.toNat + 1)).map V.int := by rw [List.map_set]
            show Own H G6 (upd H8 oa (.lst ((st.2.map V.int).set ln.1.toNat (.int (atD st.2 ln.1.toNat + 1))))) oa (.lst ((st.2.set ln.1.toNat (atD st.2 ln.1.toNat + 1)).map V.int))
            rw [← e]
            exact wo8.set
        · have hc : ¬ atD st.2 ln.1.toNat < limOf (atD ns 1) := fun z => hc (decide_eq_true z)
          have es : stepL n (limOf (atD ns 1)) ns st (i + 2) = st := by
            unfold stepL
            rw [hln, if_neg (fun z => hc z.2)]
          refine ⟨_, _, _, G6, rfl, ?_⟩
          rw [rs, es]
          exact ⟨x7, neo, ⟨xs, wl7, ax6⟩, wo7⟩
    · rintro σ H5 ⟨v5, v6, v7, G1, rfl, L⟩
      obtain ⟨x5, _, ⟨xs, wl5, ax⟩, wo5⟩ := L
      -- _law_coops = []
      refine ⟨by decide, fun ca hca => ?_⟩
      have wc := Own.fresh (o := .lst []) x5 hca
      have wl6 := wl5.lay (u := .lst []) hca
      have x6 := x5.lay (o := .lst []) hca
      have nec : la ≠ ca := ne_of_none wl5.is hca
      generalize upd H5 ca (.lst []) = H6 at *
      generalize hlanes : (runL n (limOf (atD ns 1)) ns (ns.length - 2)).1 = lanes at *
      -- for _law_yard in range(_law_count)
      refine ⟨_, rfl, n, rfl, by omega, by omega, ?_⟩
      refine for_range (lo := 0) (n := n.toNat) (fun i σ H' => ∃ (v5 v6 v7 v9 v10 : Option V), σ = [some (.ref a), some (.int n), some (.int (atD ns 1)), some (.ref la), some (.ref oa), v5, v6, v7, some (.ref ca), v9, v10] ∧
        CoopsAt G H G1 H' la ca lanes (coopsUp (atD ns 1) i)) ⟨v5, v6, v7, none, none, rfl, x6, nec, ⟨xs, wl6, ax⟩, wc⟩ ?_ ?_
      · rintro i σ H7 hi ⟨v5, v6, v7, v9, v10, rfl, x7, _, ⟨xs7, wl7, ax7⟩, wc7⟩
        have hi7 : i < 7 := by omega
        have ei : ((0 : Int) + (i : Int)) = ((i : Nat) : Int) := by omega
        show _
        rw [ei]
        -- _law_coop = .. and ..
        have cup : coopsUp (atD ns 1) (i + 1) = coopsUp (atD ns 1) i ++ (if coopOf (atD ns 1) i = true then [(i : Int)] else []) := by
          unfold coopsUp
          rw [List.range_succ, List.filter_append, List.map_append]
          congr 1
          by_cases h : coopOf (atD ns 1) i = true
          · rw [if_pos h, List.filter_cons, if_pos h]; rfl
          · rw [if_neg h, List.filter_cons, if_neg h]; rfl
        -- what comes of it: the value b of _law_coop
        have fin : ∀ (H8 : Hp) (b : Bool), b = coopOf (atD ns 1) i → Ext G H G1 H8 → Own H G1 H8 la (.lst xs7) → Own H G1 H8 ca (.lst ((coopsUp (atD ns 1) i).map V.int)) →
            ∀ D : Ends, D.nx = (fun σ H' => ∃ (v5 v6 v7 v9 v10 : Option V), σ = [some (.ref a), some (.int n), some (.int (atD ns 1)), some (.ref la), some (.ref oa), v5, v6, v7, some (.ref ca), v9, v10] ∧ CoopsAt G H G1 H' la ca lanes (coopsUp (atD ns 1) (i + 1))) →
            tIfS (tB (tVar 10)) (tDrop (tBM K "list" rAppend (tVar 8) (tCons (tVar 9) tNil))) tNext D [some (.ref a), some (.int n), some (.int (atD ns 1)), some (.ref la), some (.ref oa), v5, v6, v7, some (.ref ca), some (.int (i : Int)), some (.bl b)] H8 := by
          intro H8 b hb x8 wl8 wc8 D hD
          refine ⟨_, rfl, _, rfl, ite2 (fun hc => ?_) (fun hc => ?_)⟩
          · refine ⟨_, rfl, tyL wc8.is, _, rfl, ca, _, _, rfl, rfl, wc8.is, ?_, ?_⟩
            · rw [List.length_map]
              have : (coopsUp (atD ns 1) i).length ≤ i := by
                unfold coopsUp
                rw [List.length_map]
                exact Nat.le_trans (List.length_filter_le _ _) (by rw [List.length_range]; exact Nat.le_refl _)
              exact small1000 (by omega)
            · show D.nx _ _
              rw [hD]
              refine ⟨_, _, _, _, _, rfl, wc8.write x8, nec, ⟨xs7, wl8.other nec, ax7⟩, ?_⟩
              have := wc8.set (u := .lst ((coopsUp (atD ns 1) i).map V.int ++ [.int (i : Int)]))
              rw [cup, if_pos (by rw [← hb]; exact hc), List.map_append]
              exact this
          · show D.nx _ _
            rw [hD]
            refine ⟨_, _, _, _, _, rfl, x8, nec, ⟨xs7, wl8, ax7⟩, ?_⟩
            rw [cup, if_neg (by rw [← hb]; exact hc), List.append_nil]
            exact wc8
        refine ⟨_, rfl, _, _, rfl, rfl, ⟨by decide, by decide⟩, _, _, rfl, rfl, (by show (0 : Int) < 5; decide), rfl, _, rfl, ?_⟩
        refine iteQ (b2 := decide ((atD ns 1 / 3 + (i : Int)) % 4 = 1)) (Q := fun x H1 => gName 10 x _ H1 _) (fun hq => ?_) ?_
        · refine ⟨_, rfl, _, _, rfl, rfl, ⟨by decide, by decide⟩, _, rfl, _, _, rfl, rfl, _, _, rfl, rfl, (by show (0 : Int) < 4; decide), rfl, ?_⟩
          rw [decV]
          exact hq
        have ea : ((!decide (V.int (atD ns 1 / 3 % 5) = V.int 4)) && decide ((atD ns 1 / 3 + (i : Int)) % 4 = 1)) = coopA (atD ns 1) i := by
          rw [decV]
          rfl
        rw [ea]
        -- if _law_seed // 15 % 3 == 1
        refine ⟨_, rfl, _, _, rfl, rfl, ⟨by decide, by decide⟩, _, _, rfl, rfl, (by show (0 : Int) < 3; decide), rfl, _, rfl, ?_⟩
        rw [decV]
        refine ite2 (fun hc => ?_) (fun hc => ?_)
        · have hc : atD ns 1 / 15 % 3 = 1 := of_decide_eq_true hc
          refine ⟨_, rfl, by decide, fun p4 h4 => ?_⟩
          have x8 := x7.lay (o := .lst [.int 45, .int 90, .int 180, .int 360, .int 720, .int 1440, .int 2880]) h4
          have wl8 := wl7.lay (u := .lst [.int 45, .int 90, .int 180, .int 360, .int 720, .int 1440, .int 2880]) h4
          have wc8 := wc7.lay (u := .lst [.int 45, .int 90, .int 180, .int 360, .int 720, .int 1440, .int 2880]) h4
          have l8 : upd H7 p4 (.lst [.int 45, .int 90, .int 180, .int 360, .int 720, .int 1440, .int 2880]) p4 = some (.lst (divs.map V.int)) := upd_same
          generalize upd H7 p4 (.lst [.int 45, .int 90, .int 180, .int 360, .int 720, .int 1440, .int 2880]) = H8 at x8 wl8 wc8 l8
          have dm : atD divs i ∈ divs := Fx.getD_mem hi7
          have dd : 0 < atD divs i ∧ atD divs i < 1073741824 := by
            generalize atD divs i = z at dm
            simp [divs] at dm
            omega
          refine ⟨_, rfl, .inl ⟨p4, _, _, _, rfl, rfl, SqL.of l8, atI_int hi7, _, _, rfl, rfl, dd, _, _, rfl, rfl, (by show (0 : Int) < 2; decide), rfl, ?_⟩⟩
          refine fin H8 _ ?_ x8 wl8 wc8 _ rfl
          rw [decV]
          unfold coopOf
          rw [if_pos hc]
          rfl
        · have hc : ¬ atD ns 1 / 15 % 3 = 1 := fun z => hc (decide_eq_true z)
          refine fin H7 _ ?_ x7 wl7 wc7 _ rfl
          unfold coopOf
          rw [if_neg hc]
      · rintro σ H7 ⟨v5, v6, v7, v9, v10, rfl, x7, _, ⟨xs7, wl7, ax7⟩, wc7⟩
        refine ⟨_, rfl, _, rfl, _, rfl, few (by show 3 ≤ 1000; decide), fun p hp => ?_⟩
        have x8 := Own.join x7 wl7
        have wc8 := Own.joined wl7 wc7 nec.symm
        have x9 := Own.join x8 wc8
        have x10 := x9.put (o := .tup [.int n, .ref la, .ref ca]) hp
        refine q _ _ _ x10 ?_
        have s1 : Same G1 (upd G1 la (.lst xs7)) := same_upd wl7.apart
        have s2 : Same (upd G1 la (.lst xs7)) (upd (upd G1 la (.lst xs7)) ca (.lst ((coopsUp (atD ns 1) n.toNat).map V.int))) := same_upd wc8.apart
        have hpn := x9.gh.free hp
        have s3 := same_upd (o := .tup [.int n, .ref la, .ref ca]) hpn
        have eL : (boardOf menuB ns).lanes = lanes := by
          show (runL (cntOf menuB ns) (limOf (atD ns 1)) ns (ns.length - 2)).1 = lanes
          rw [hn0, hlanes]
        have eC : (boardOf menuB ns).coops = coopsUp (atD ns 1) n.toNat := by
          show coopsUp (atD ns 1) (cntOf menuB ns).toNat = _
          rw [hn0]
        unfold boardD
        rw [eL, eC]
        refine .tup upd_same (.cons ?_ (.cons (.lst (s3 _ _ (s2 _ _ upd_same)) (ax7.mono (s1.trans (s2.trans s3)))) (.cons (.lst (s3 _ _ upd_same) (AtAll.ints _)) .nil)))
        have e : (((boardOf menuB ns).n : Nat) : Int) = n := by
          show (((cntOf menuB ns).toNat : Nat) : Int) = n
          rw [hn0]
          omega
        rw [e]
        exact .int n

def spStays : Sp := fun vs H Q _ => ∃ (x y : V) (d : PyData), vs = [x, y] ∧ At H x d ∧ At H y d ∧ noB d = true ∧ sz d ≤ 1000 ∧ ∀ H', Same H H' → Q (.bl true) H'
/-! ### _law_stays_so -/
theorem scStays : FnScope ["_law_handed", "_law_own", "_law_left", "_law_right", "_law_one", "_law_two"] ["_law_handed", "_law_own"] (defScope sStays) := ⟨rfl, rfl, rfl, by decide +kernel, rfl, by decide +kernel, by decide +kernel⟩
/-- between two turns: the two piles hold the same data -/
structure Piles (H H1 : Hp) (L R : Addr) (m : Nat) : Prop where
  x : Ext H H H H1
  ne : L ≠ R
  all : ∃ xs ys ds, Own H H H1 L (.lst xs) ∧ Own H H H1 R (.lst ys) ∧ AtAll H xs ds ∧ AtAll H ys ds ∧ noBs ds = true ∧ szs ds = m ∧ m ≤ 1000
theorem ok_stays {f : Addr} {fd : FuncData} (F : Fun K "_law_stays_so" "_law_stays_so" sStays f fd) (T : Txt mg) : FnOk P w K mg base CX0 1 f fd ["_law_handed", "_law_own"] spStays := by
  refine F.ok scStays (fun vs H Q E h => ?_) (fun cdv A outer s H vs Q E hr h => ?_)
  · obtain ⟨x, y, d, rfl, _⟩ := h
    rfl
  · obtain ⟨x, y, d, rfl, hx, hy, hnb, hsz, q⟩ := h
    refine ⟨_, (pss_cons (ps_set (i := 2) scStays.nd rfl (Or.inl rfl) (pe_lst (pa_cons (pv 0) pa_nil)))
      (pss_cons (ps_set (i := 3) scStays.nd rfl (Or.inl rfl) (pe_lst (pa_cons (pv 1) pa_nil)))
      (pss_cons (ps_while PassesOwn.never (pt_cmpR (op_neD hr) (pv 3) (pe_lst pa_nil) (nomark _))
       (pss_cons (ps_set (i := 4) scStays.nd rfl (Or.inl rfl) (pop_K (K := K) rfl (pv 2)))
        (pss_cons (ps_set (i := 5) scStays.nd rfl (Or.inl rfl) (pop_K (K := K) rfl (pv 3)))
        (pss_one (ps_if (pt_val (pe_callB isi_seq rfl T.n_isinstance b_isinstance (pa_cons (pv 5) (pa_cons (pe_tup (pa_cons (pe_ty "list" rfl T.n_list b_list) (pa_cons (pe_ty "tuple" rfl T.n_tuple b_tuple) pa_nil))) pa_nil))))
         (pss_cons (ps_if (pt_cmpR op_ne (pe_callB isi_list rfl T.n_isinstance b_isinstance (pa_cons (pv 4) (pa_cons (pe_ty "list" rfl T.n_list b_list) pa_nil))) (pe_callB isi_list rfl T.n_isinstance b_isinstance (pa_cons (pv 5) (pa_cons (pe_ty "list" rfl T.n_list b_list) pa_nil))) (nomark _))
           (pss_one (ps_ret pe_bl))
           pss_nil)
          (pss_cons (ps_if (PW.pt (pw_or (pt_cmpR op_ne (pe_callB isi_tuple rfl T.n_isinstance b_isinstance (pa_cons (pv 4) (pa_cons (pe_ty "tuple" rfl T.n_tuple b_tuple) pa_nil))) (pe_callB isi_tuple rfl T.n_isinstance b_isinstance (pa_cons (pv 5) (pa_cons (pe_ty "tuple" rfl T.n_tuple b_tuple) pa_nil))) (nomark _)) (pw_or1 (pt_cmpR op_ne (pe_callB (len_K (K := K) rfl) rfl T.n_len b_len (pa_cons (pv 4) pa_nil)) (pe_callB (len_K (K := K) rfl) rfl T.n_len b_len (pa_cons (pv 5) pa_nil)) (nomark _)))))
           (pss_one (ps_ret pe_bl))
           pss_nil)
          (pss_cons (ps_expr (extend_K (K := K) rfl (pv 2) (pa_cons (pe_callTy (listOf_K (K := K) rfl) rfl T.n_list b_list (pa_cons (pv 4) pa_nil)) pa_nil)))
          (pss_one (ps_expr (extend_K (K := K) rfl (pv 3) (pa_cons (pe_callTy (listOf_K (K := K) rfl) rfl T.n_list b_list (pa_cons (pv 5) pa_nil)) pa_nil)))))))
         (pss_one (ps_if (pt_val (pe_callB isi_str rfl T.n_isinstance b_isinstance (pa_cons (pv 5) (pa_cons (pe_ty "str" rfl T.n_str b_str) pa_nil))))
           (pss_one (ps_if (PW.pt (pw_or (pt_not (pt_val (pe_callB isi_str rfl T.n_isinstance b_isinstance (pa_cons (pv 4) (pa_cons (pe_ty "str" rfl T.n_str b_str) pa_nil))))) (pw_or1 (pt_cmpR op_ne (pv 4) (pv 5) (nomark _)))))
             (pss_one (ps_ret pe_bl))
             pss_nil))
           (pss_one (ps_if (pt_cmp (pc_isN (pv 5)))
             (pss_one (ps_if (pt_cmp (pc_notN (pv 4)))
               (pss_one (ps_ret pe_bl))
               pss_nil))
             (pss_one (ps_if (PW.pt (pw_or (pt_not (pt_val (pe_callB isi_int rfl T.n_isinstance b_isinstance (pa_cons (pv 4) (pa_cons (pe_ty "int" rfl T.n_int b_int) pa_nil))))) (pw_or (pt_val (pe_callB isi_bool rfl T.n_isinstance b_isinstance (pa_cons (pv 4) (pa_cons (pe_ty "bool" rfl T.n_bool b_bool) pa_nil)))) (pw_or1 (pt_cmpR op_ne (pv 4) (pv 5) (nomark _))))))
               (pss_one (ps_ret pe_bl))
               pss_nil)))))))))))
      (pss_one (ps_ret pe_bl))))), ?_⟩
    refine ⟨_, rfl, few (by show 1 ≤ 1000; decide), fun L hL => ?_⟩
    have x1 := (Ext.refl (Same.refl H)).lay (o := .lst [x]) hL
    have w1 := Own.fresh (o := .lst [x]) (Ext.refl (Same.refl H)) hL
    generalize upd H L (.lst [x]) = H1 at x1 w1
    refine ⟨_, rfl, few (by show 1 ≤ 1000; decide), fun R hR => ?_⟩
    have x2 := x1.lay (o := .lst [y]) hR
    have w2 := w1.lay (u := .lst [y]) hR
    have w3 := Own.fresh (o := .lst [y]) x1 hR
    have ne : L ≠ R := ne_of_none w1.is hR
    generalize upd H1 R (.lst [y]) = H2 at x2 w2 w3
    refine ⟨fun m σ H' => ∃ (v4 v5 : Option V), σ = [some x, some y, some (.ref L), some (.ref R), v4, v5] ∧ Piles H H' L R m,
      ⟨sz d, none, none, rfl, x2, ne, [x], [y], [d], w2, w3, .one hx, .one hy, by simp [noBs, hnb], by simp [szs], hsz⟩, ?_⟩
    rintro m σ H3 ⟨v4, v5, rfl, x3, _, xs, ys, ds, wL, wR, ax, ay, hnb, hm, hm0⟩
    -- _law_right != []
    refine ⟨_, rfl, by decide, fun p hp => ?_⟩
    have x4 := x3.lay (o := .lst []) hp
    have wL4 := wL.lay (u := .lst []) hp
    have wR4 := wR.lay (u := .lst []) hp
    have ap : At (upd H3 p (.lst [])) (.ref p) (.list []) := .lst upd_same .nil
    generalize upd H3 p (.lst []) = H4 at x4 wL4 wR4 ap
    refine ⟨_, _, .lst wR4.is (ay.mono x4.gh), ap, ?_, _, rfl, ?_⟩
    · have : (PyData.list ([] : List PyData)).depth = 1 := by simp [PyData.depth, PyData.depthAll]
      omega
    rcases List.eq_nil_or_concat ds with rfl | ⟨ds', d', rfl⟩
    · refine iteF ?_
      exact q _ x4.hh
    · have ene : (!PyData.eqv (.list (ds'.concat d')) (.list [])) = true := by
        cases ds' <;> simp [PyData.eqv, PyData.eqvAll]
      rw [ene]
      rw [List.concat_eq_append] at *
      refine iteT ⟨fun σ' H' => ∃ m', m' < m ∧ ∃ (v4 v5 : Option V), σ' = [some x, some y, some (.ref L), some (.ref R), v4, v5] ∧ Piles H H' L R m', fun _ _ h => h, ?_⟩
      obtain ⟨xs1, xl, rfl, ax1, axl⟩ := ax.split
      obtain ⟨ys1, yl, rfl, ay1, ayl⟩ := ay.split
      cases axl with
      | cons adx axn =>
      cases axn
      cases ayl with
      | cons ady ayn =>
      cases ayn
      rename_i x' y'
      rw [noBs_append] at hnb
      rw [szs_append] at hm
      have hd1 : noB d' = true ∧ noBs ds' = true := by simp [noBs] at hnb; exact ⟨hnb.2, hnb.1⟩
      have hm1 : szs ds' + sz d' = m := by simp [szs] at hm; exact hm
      -- the two pops
      refine ⟨_, rfl, tyL wL4.is, L, _, x', rfl, rfl, wL4.is, by simp, ?_⟩
      rw [List.dropLast_concat]
      have x5 := wL4.write (u := .lst xs1) x4
      have wL5 := wL4.set (u := .lst xs1)
      have wR5 := wR4.other (u := .lst xs1) ne.symm
      generalize upd H4 L (.lst xs1) = H5 at x5 wL5 wR5
      refine ⟨_, rfl, tyL wR5.is, R, _, y', rfl, rfl, wR5.is, by simp, ?_⟩
      rw [List.dropLast_concat]
      have x6 := wR5.write (u := .lst ys1) x5
      have wL6 := wL5.other (u := .lst ys1) ne
      have wR6 := wR5.set (u := .lst ys1)
      generalize upd H5 R (.lst ys1) = H6 at x6 wL6 wR6
      -- isinstance(_law_two, (list, tuple))
      refine ⟨_, rfl, by decide, fun p2 hp2 => ?_⟩
      have x7 := x6.lay (o := .tup [.ty "list", .ty "tuple"]) hp2
      have wL7 := wL6.lay (u := .tup [.ty "list", .ty "tuple"]) hp2
      have wR7 := wR6.lay (u := .tup [.ty "list", .ty "tuple"]) hp2
      have l7 : upd H6 p2 (.tup [.ty "list", .ty "tuple"]) p2 = some (.tup [.ty "list", .ty "tuple"]) := upd_same
      generalize upd H6 p2 (.tup [.ty "list", .ty "tuple"]) = H7 at x7 wL7 wR7 l7
      have dx := adx.mono x7.gh
      have dy := ady.mono x7.gh
      refine ⟨_, d', p2, rfl, dy, l7, _, rfl, ?_⟩
      have hend : ∀ v4 v5 : Option V, ∃ m', m' < m ∧ ∃ (v4' v5' : Option V), ([some x, some y, some (.ref L), some (.ref R), v4, v5] : St) = [some x, some y, some (.ref L), some (.ref R), v4', v5'] ∧ Piles H H7 L R m' := fun v4 v5 =>
        ⟨szs ds', by have := sz_pos d'; omega, v4, v5, rfl, x7, ne, xs1, ys1, ds', wL7, wR7, ax1, ay1, hd1.2, rfl, by omega⟩
      refine ite2 (fun hc => ?_) (fun hc => ?_)
      · obtain ⟨a1, b1, us, vs, es, rfl, rfl, ha1, hb1, au, av, hsz1, hnb1⟩ := adx.seq2 ady hc
        have ha7 := ha1.imp (x7.gh _ _) (x7.gh _ _)
        have hb7 := hb1.imp (x7.gh _ _) (x7.gh _ _)
        -- isinstance(.., list) != isinstance(.., list)
        refine ⟨_, rfl, _, d', rfl, dx, _, rfl, _, d', rfl, dy, rfl, _, rfl, iteNS rfl ?_⟩
        -- isinstance(.., tuple) != isinstance(.., tuple) or len != len
        refine ⟨_, rfl, _, d', rfl, dx, _, rfl, _, d', rfl, dy, rfl, _, rfl, iteNS rfl ?_⟩
        refine ⟨_, rfl, a1, us, rfl, seq_or ha7, _, rfl, b1, vs, rfl, seq_or hb7, rfl, _, rfl, ?_⟩
        have elen : (us.length : Int) = (vs.length : Int) := by rw [au.length, av.length]
        refine iteNS (by rw [elen]) ?_
        -- _law_left.extend(list(_law_one))
        refine ⟨_, rfl, tyL wL7.is, _, rfl, a1, us, rfl, seq_or ha7, fun l1 hl1 => ?_⟩
        have x8 := x7.lay (o := .lst us) hl1
        have wL8 := wL7.lay (u := .lst us) hl1
        have wR8 := wR7.lay (u := .lst us) hl1
        have ll8 : upd H7 l1 (.lst us) l1 = some (.lst us) := upd_same
        have hb8 := hb7.imp (same_upd (o := .lst us) hl1 _ _) (same_upd (o := .lst us) hl1 _ _)
        generalize upd H7 l1 (.lst us) = H8 at x8 wL8 wR8 ll8 hb8
        have bound : ∀ {zs : List V} {ws : List V}, AtAll H zs ds' → AtAll H ws es → zs.length + ws.length ≤ sizeLine := fun {zs ws} h1 h2 => by
          have e1 := h1.length
          have e2 := h2.length
          have e3 := len_szs ds'
          have e4 := len_szs es
          exact Nat.le_of_lt (small1000 (by omega))
        refine ⟨L, l1, xs1, us, rfl, rfl, wL8.is, ll8, bound ax1 au, ?_⟩
        have x9 := wL8.write (u := .lst (xs1 ++ us)) x8
        have wL9 := wL8.set (u := .lst (xs1 ++ us))
        have wR9 := wR8.other (u := .lst (xs1 ++ us)) ne.symm
        have hb9 : (upd H8 L (.lst (xs1 ++ us))) b1 = some (.lst vs) ∨ (upd H8 L (.lst (xs1 ++ us))) b1 = some (.tup vs) := by
          have : b1 ≠ L := by
            rintro rfl
            rcases hb1 with z | z <;> (rw [wL8.new] at z; cases z)
          rw [upd_ne this]
          exact hb8
        generalize upd H8 L (.lst (xs1 ++ us)) = H9 at x9 wL9 wR9 hb9
        -- _law_right.extend(list(_law_two))
        refine ⟨_, rfl, tyL wR9.is, _, rfl, b1, vs, rfl, seq_or hb9, fun l2 hl2 => ?_⟩
        have x10 := x9.lay (o := .lst vs) hl2
        have wL10 := wL9.lay (u := .lst vs) hl2
        have wR10 := wR9.lay (u := .lst vs) hl2
        have ll10 : upd H9 l2 (.lst vs) l2 = some (.lst vs) := upd_same
        generalize upd H9 l2 (.lst vs) = H10 at x10 wL10 wR10 ll10
        refine ⟨R, l2, ys1, vs, rfl, rfl, wR10.is, ll10, bound ay1 av, ?_⟩
        refine ⟨szs (ds' ++ es), by rw [szs_append]; omega, _, _, rfl, wR10.write x10, ne, xs1 ++ us, ys1 ++ vs, ds' ++ es, wL10.other ne, wR10.set, ax1.append au, ay1.append av, ?_, rfl, by rw [szs_append]; omega⟩
        rw [noBs_append, hd1.2, ← hnb1, hd1.1]
        rfl
      · have hc : isSeq d' = false := by simpa using hc
        refine ⟨_, rfl, _, d', rfl, dy, _, rfl, ?_⟩
        cases adx with
        | tup _ _ => exact absurd hc (by simp [isSeq])
        | lst _ _ => exact absurd hc (by simp [isSeq])
        | bl b => exact absurd hd1.1 (by simp [noB])
        | non =>
          cases ady
          refine iteF ?_
          refine ⟨_, rfl, _, rfl, iteT ?_⟩
          refine ⟨_, rfl, _, rfl, iteF ?_⟩
          exact hend _ _
        | int i =>
          cases ady
          refine iteF ?_
          refine ⟨_, rfl, _, rfl, iteF ?_⟩
          refine ⟨_, rfl, _, _, rfl, .int i, _, rfl, iteF ?_⟩
          refine ⟨_, rfl, _, _, rfl, .int i, _, rfl, iteF ?_⟩
          refine ⟨_, rfl, _, rfl, rfl, _, rfl, iteNS rfl ?_⟩
          exact hend _ _
        | str hs =>
          cases ady
          refine iteT ?_
          refine ⟨_, rfl, _, _, rfl, .str hs, _, rfl, iteF ?_⟩
          refine ⟨_, rfl, _, rfl, ?_, _, rfl, iteNS rfl ?_⟩
          · rfl
          · exact hend _ _

def spAsWas : Sp := fun vs H Q _ => ∃ (x y : V) (d : PyData), vs = [x, y] ∧ At H x d ∧ At H y d ∧ noB d = true ∧ sz d ≤ 1000 ∧ ∀ H', Same H H' → Q (.bl true) H'
/-! ### _law_as_it_was -/
theorem scAsWas : FnScope ["_law_handed", "_law_own", "_law_left", "_law_right", "_law_one", "_law_two"] ["_law_handed", "_law_own"] (defScope sAsWas) := ⟨rfl, rfl, rfl, by decide +kernel, rfl, by decide +kernel, by decide +kernel⟩
/-- between two turns: the two piles hold the same data -/
structure PilesW (H H1 : Hp) (L R : Addr) (m : Nat) : Prop where
  x : Ext H H H H1
  ne : L ≠ R
  all : ∃ xs ys ds, Own H H H1 L (.lst xs) ∧ Own H H H1 R (.lst ys) ∧ AtAll H xs ds ∧ AtAll H ys ds ∧ noBs ds = true ∧ szs ds = m ∧ m ≤ 1000
theorem ok_asWas {f : Addr} {fd : FuncData} (F : Fun K "_law_as_it_was" "_law_as_it_was" sAsWas f fd) (T : Txt mg) : FnOk P w K mg base CX0 1 f fd ["_law_handed", "_law_own"] spAsWas := by
  refine F.ok scAsWas (fun vs H Q E h => ?_) (fun cdv A outer s H vs Q E hr h => ?_)
  · obtain ⟨x, y, d, rfl, _⟩ := h
    rfl
  · obtain ⟨x, y, d, rfl, hx, hy, hnb, hsz, q⟩ := h
    refine ⟨_, (pss_cons (ps_set (i := 2) scAsWas.nd rfl (Or.inl rfl) (pe_lst (pa_cons (pv 0) pa_nil)))
      (pss_cons (ps_set (i := 3) scAsWas.nd rfl (Or.inl rfl) (pe_lst (pa_cons (pv 1) pa_nil)))
      (pss_cons (ps_while PassesOwn.never (pt_cmpR op_gt (pe_callB (len_K (K := K) rfl) rfl T.n_len b_len (pa_cons (pv 3) pa_nil)) pe_int (nomark _))
       (pss_cons (ps_set (i := 4) scAsWas.nd rfl (Or.inl rfl) (pop_K (K := K) rfl (pv 2)))
        (pss_cons (ps_set (i := 5) scAsWas.nd rfl (Or.inl rfl) (pop_K (K := K) rfl (pv 3)))
        (pss_one (ps_if (pt_val (pe_callB isi_seq rfl T.n_isinstance b_isinstance (pa_cons (pv 5) (pa_cons (pe_tup (pa_cons (pe_ty "list" rfl T.n_list b_list) (pa_cons (pe_ty "tuple" rfl T.n_tuple b_tuple) pa_nil))) pa_nil))))
         (pss_cons (ps_if (pt_cmpR op_ne (pe_callB isi_list rfl T.n_isinstance b_isinstance (pa_cons (pv 4) (pa_cons (pe_ty "list" rfl T.n_list b_list) pa_nil))) (pe_callB isi_list rfl T.n_isinstance b_isinstance (pa_cons (pv 5) (pa_cons (pe_ty "list" rfl T.n_list b_list) pa_nil))) (nomark _))
           (pss_one (ps_ret pe_bl))
           pss_nil)
          (pss_cons (ps_if (PW.pt (pw_or (pt_cmpR op_ne (pe_callB isi_tuple rfl T.n_isinstance b_isinstance (pa_cons (pv 4) (pa_cons (pe_ty "tuple" rfl T.n_tuple b_tuple) pa_nil))) (pe_callB isi_tuple rfl T.n_isinstance b_isinstance (pa_cons (pv 5) (pa_cons (pe_ty "tuple" rfl T.n_tuple b_tuple) pa_nil))) (nomark _)) (pw_or1 (pt_cmpR op_ne (pe_callB (len_K (K := K) rfl) rfl T.n_len b_len (pa_cons (pv 4) pa_nil)) (pe_callB (len_K (K := K) rfl) rfl T.n_len b_len (pa_cons (pv 5) pa_nil)) (nomark _)))))
           (pss_one (ps_ret pe_bl))
           pss_nil)
          (pss_cons (ps_expr (extend_K (K := K) rfl (pv 2) (pa_cons (pe_callTy (listOf_K (K := K) rfl) rfl T.n_list b_list (pa_cons (pv 4) pa_nil)) pa_nil)))
          (pss_one (ps_expr (extend_K (K := K) rfl (pv 3) (pa_cons (pe_callTy (listOf_K (K := K) rfl) rfl T.n_list b_list (pa_cons (pv 5) pa_nil)) pa_nil)))))))
         (pss_one (ps_if (pt_cmp (pc_isN (pv 5)))
           (pss_one (ps_if (pt_cmp (pc_notN (pv 4)))
             (pss_one (ps_ret pe_bl))
             pss_nil))
           (pss_one (ps_if (pt_val (pe_callB isi_bool rfl T.n_isinstance b_isinstance (pa_cons (pv 5) (pa_cons (pe_ty "bool" rfl T.n_bool b_bool) pa_nil))))
             (pss_one (ps_if (PW.pt (pw_or (pt_not (pt_val (pe_callB isi_bool rfl T.n_isinstance b_isinstance (pa_cons (pv 4) (pa_cons (pe_ty "bool" rfl T.n_bool b_bool) pa_nil))))) (pw_or1 (pt_cmpR op_ne (pv 4) (pv 5) (nomark _)))))
               (pss_one (ps_ret pe_bl))
               pss_nil))
             (pss_one (ps_if (pt_val (pe_callB isi_str rfl T.n_isinstance b_isinstance (pa_cons (pv 5) (pa_cons (pe_ty "str" rfl T.n_str b_str) pa_nil))))
               (pss_one (ps_if (PW.pt (pw_or (pt_not (pt_val (pe_callB isi_str rfl T.n_isinstance b_isinstance (pa_cons (pv 4) (pa_cons (pe_ty "str" rfl T.n_str b_str) pa_nil))))) (pw_or1 (pt_cmpR op_ne (pv 4) (pv 5) (nomark _)))))
                 (pss_one (ps_ret pe_bl))
                 pss_nil))
               (pss_one (ps_if (PW.pt (pw_or (pt_not (pt_val (pe_callB isi_int rfl T.n_isinstance b_isinstance (pa_cons (pv 4) (pa_cons (pe_ty "int" rfl T.n_int b_int) pa_nil))))) (pw_or (pt_val (pe_callB isi_bool rfl T.n_isinstance b_isinstance (pa_cons (pv 4) (pa_cons (pe_ty "bool" rfl T.n_bool b_bool) pa_nil)))) (pw_or1 (pt_cmpR op_ne (pv 4) (pv 5) (nomark _))))))
                 (pss_one (ps_ret pe_bl))
                 pss_nil)))))))))))))
      (pss_one (ps_ret pe_bl))))), ?_⟩
    refine ⟨_, rfl, few (by show 1 ≤ 1000; decide), fun L hL => ?_⟩
    have x1 := (Ext.refl (Same.refl H)).lay (o := .lst [x]) hL
    have w1 := Own.fresh (o := .lst [x]) (Ext.refl (Same.refl H)) hL
    generalize upd H L (.lst [x]) = H1 at x1 w1
    refine ⟨_, rfl, few (by show 1 ≤ 1000; decide), fun R hR => ?_⟩
    have x2 := x1.lay (o := .lst [y]) hR
    have w2 := w1.lay (u := .lst [y]) hR
    have w3 := Own.fresh (o := .lst [y]) x1 hR
    have ne : L ≠ R := ne_of_none w1.is hR
    generalize upd H1 R (.lst [y]) = H2 at x2 w2 w3
    refine ⟨fun m σ H' => ∃ (v4 v5 : Option V), σ = [some x, some y, some (.ref L), some (.ref R), v4, v5] ∧ PilesW H H' L R m,
      ⟨sz d, none, none, rfl, x2, ne, [x], [y], [d], w2, w3, .one hx, .one hy, by simp [noBs, hnb], by simp [szs], hsz⟩, ?_⟩
    rintro m σ H3 ⟨v4, v5, rfl, x3, _, xs, ys, ds, wL, wR, ax, ay, hnb, hm, hm0⟩
    -- len(_law_right) > 0
    refine ⟨_, rfl, R, _, rfl, .inl (SqL.of wR.is), _, _, rfl, rfl, _, rfl, ?_⟩
    have x4 := x3
    have wL4 := wL
    have wR4 := wR
    have eyl := ay.length
    rw [eyl]
    rcases List.eq_nil_or_concat ds with rfl | ⟨ds', d', rfl⟩
    · refine iteF ?_
      exact q _ x4.hh
    · rw [show decide ((((ds'.concat d').length : Nat) : Int) > 0) = true from decide_eq_true (by rw [List.length_concat]; omega)]
      clear eyl
      rw [List.concat_eq_append] at *
      refine iteT ⟨fun σ' H' => ∃ m', m' < m ∧ ∃ (v4 v5 : Option V), σ' = [some x, some y, some (.ref L), some (.ref R), v4, v5] ∧ PilesW H H' L R m', fun _ _ h => h, ?_⟩
      obtain ⟨xs1, xl, rfl, ax1, axl⟩ := ax.split
      obtain ⟨ys1, yl, rfl, ay1, ayl⟩ := ay.split
      cases axl with
      | cons adx axn =>
      cases axn
      cases ayl with
      | cons ady ayn =>
      cases ayn
      rename_i x' y'
      rw [noBs_append] at hnb
      rw [szs_append] at hm
      have hd1 : noB d' = true ∧ noBs ds' = true := by simp [noBs] at hnb; exact ⟨hnb.2, hnb.1⟩
      have hm1 : szs ds' + sz d' = m := by simp [szs] at hm; exact hm
      -- the two pops
      refine ⟨_, rfl, tyL wL4.is, L, _, x', rfl, rfl, wL4.is, by simp, ?_⟩
      rw [List.dropLast_concat]
      have x5 := wL4.write (u := .lst xs1) x4
      have wL5 := wL4.set (u := .lst xs1)
      have wR5 := wR4.other (u := .lst xs1) ne.symm
      generalize upd H3 L (.lst xs1) = H5 at x5 wL5 wR5
      refine ⟨_, rfl, tyL wR5.is, R, _, y', rfl, rfl, wR5.is, by simp, ?_⟩
      rw [List.dropLast_concat]
      have x6 := wR5.write (u := .lst ys1) x5
      have wL6 := wL5.other (u := .lst ys1) ne
      have wR6 := wR5.set (u := .lst ys1)
      generalize upd H5 R (.lst ys1) = H6 at x6 wL6 wR6
      -- isinstance(_law_two, (list, tuple))
      refine ⟨_, rfl, by decide, fun p2 hp2 => ?_⟩
      have x7 := x6.lay (o := .tup [.ty "list", .ty "tuple"]) hp2
      have wL7 := wL6.lay (u := .tup [.ty "list", .ty "tuple"]) hp2
      have wR7 := wR6.lay (u := .tup [.ty "list", .ty "tuple"]) hp2
      have l7 : upd H6 p2 (.tup [.ty "list", .ty "tuple"]) p2 = some (.tup [.ty "list", .ty "tuple"]) := upd_same
      generalize upd H6 p2 (.tup [.ty "list", .ty "tuple"]) = H7 at x7 wL7 wR7 l7
      have dx := adx.mono x7.gh
      have dy := ady.mono x7.gh
      refine ⟨_, d', p2, rfl, dy, l7, _, rfl, ?_⟩
      have hend : ∀ v4 v5 : Option V, ∃ m', m' < m ∧ ∃ (v4' v5' : Option V), ([some x, some y, some (.ref L), some (.ref R), v4, v5] : St) = [some x, some y, some (.ref L), some (.ref R), v4', v5'] ∧ PilesW H H7 L R m' := fun v4 v5 =>
        ⟨szs ds', by have := sz_pos d'; omega, v4, v5, rfl, x7, ne, xs1, ys1, ds', wL7, wR7, ax1, ay1, hd1.2, rfl, by omega⟩
      refine ite2 (fun hc => ?_) (fun hc => ?_)
      · obtain ⟨a1, b1, us, vs, es, rfl, rfl, ha1, hb1, au, av, hsz1, hnb1⟩ := adx.seq2 ady hc
        have ha7 := ha1.imp (x7.gh _ _) (x7.gh _ _)
        have hb7 := hb1.imp (x7.gh _ _) (x7.gh _ _)
        -- isinstance(.., list) != isinstance(.., list)
        refine ⟨_, rfl, _, d', rfl, dx, _, rfl, _, d', rfl, dy, rfl, _, rfl, iteNS rfl ?_⟩
        -- isinstance(.., tuple) != isinstance(.., tuple) or len != len
        refine ⟨_, rfl, _, d', rfl, dx, _, rfl, _, d', rfl, dy, rfl, _, rfl, iteNS rfl ?_⟩
        refine ⟨_, rfl, a1, us, rfl, seq_or ha7, _, rfl, b1, vs, rfl, seq_or hb7, rfl, _, rfl, ?_⟩
        have elen : (us.length : Int) = (vs.length : Int) := by rw [au.length, av.length]
        refine iteNS (by rw [elen]) ?_
        -- _law_left.extend(list(_law_one))
        refine ⟨_, rfl, tyL wL7.is, _, rfl, a1, us, rfl, seq_or ha7, fun l1 hl1 => ?_⟩
        have x8 := x7.lay (o := .lst us) hl1
        have wL8 := wL7.lay (u := .lst us) hl1
        have wR8 := wR7.lay (u := .lst us) hl1
        have ll8 : upd H7 l1 (.lst us) l1 = some (.lst us) := upd_same
        have hb8 := hb7.imp (same_upd (o := .lst us) hl1 _ _) (same_upd (o := .lst us) hl1 _ _)
        generalize upd H7 l1 (.lst us) = H8 at x8 wL8 wR8 ll8 hb8
        have bound : ∀ {zs : List V} {ws : List V}, AtAll H zs ds' → AtAll H ws es → zs.length + ws.length ≤ sizeLine := fun {zs ws} h1 h2 => by
          have e1 := h1.length
          have e2 := h2.length
          have e3 := len_szs ds'
          have e4 := len_szs es
          exact Nat.le_of_lt (small1000 (by omega))
        refine ⟨L, l1, xs1, us, rfl, rfl, wL8.is, ll8, bound ax1 au, ?_⟩
        have x9 := wL8.write (u := .lst (xs1 ++ us)) x8
        have wL9 := wL8.set (u := .lst (xs1 ++ us))
        have wR9 := wR8.other (u := .lst (xs1 ++ us)) ne.symm
        have hb9 : (upd H8 L (.lst (xs1 ++ us))) b1 = some (.lst vs) ∨ (upd H8 L (.lst (xs1 ++ us))) b1 = some (.tup vs) := by
          have : b1 ≠ L := by
            rintro rfl
            rcases hb1 with z | z <;> (rw [wL8.new] at z; cases z)
          rw [upd_ne this]
          exact hb8
        generalize upd H8 L (.lst (xs1 ++ us)) = H9 at x9 wL9 wR9 hb9
        -- _law_right.extend(list(_law_two))
        refine ⟨_, rfl, tyL wR9.is, _, rfl, b1, vs, rfl, seq_or hb9, fun l2 hl2 => ?_⟩
        have x10 := x9.lay (o := .lst vs) hl2
        have wL10 := wL9.lay (u := .lst vs) hl2
        have wR10 := wR9.lay (u := .lst vs) hl2
        have ll10 : upd H9 l2 (.lst vs) l2 = some (.lst vs) := upd_same
        generalize upd H9 l2 (.lst vs) = H10 at x10 wL10 wR10 ll10
        refine ⟨R, l2, ys1, vs, rfl, rfl, wR10.is, ll10, bound ay1 av, ?_⟩
        refine ⟨szs (ds' ++ es), by rw [szs_append]; omega, _, _, rfl, wR10.write x10, ne, xs1 ++ us, ys1 ++ vs, ds' ++ es, wL10.other ne, wR10.set, ax1.append au, ay1.append av, ?_, rfl, by rw [szs_append]; omega⟩
        rw [noBs_append, hd1.2, ← hnb1, hd1.1]
        rfl
      · have hc : isSeq d' = false := by simpa using hc
        refine ⟨_, rfl, _, rfl, ?_⟩
        cases adx with
        | tup _ _ => exact absurd hc (by simp [isSeq])
        | lst _ _ => exact absurd hc (by simp [isSeq])
        | bl b => exact absurd hd1.1 (by simp [noB])
        | non =>
          cases ady
          refine iteT ?_
          refine ⟨_, rfl, _, rfl, iteF ?_⟩
          exact hend _ _
        | int i =>
          cases ady
          refine iteF ?_
          refine ⟨_, rfl, _, _, rfl, .int i, _, rfl, iteF ?_⟩
          refine ⟨_, rfl, _, _, rfl, .int i, _, rfl, iteF ?_⟩
          refine ⟨_, rfl, _, _, rfl, .int i, _, rfl, iteF ?_⟩
          refine ⟨_, rfl, _, _, rfl, .int i, _, rfl, iteF ?_⟩
          refine ⟨_, rfl, _, rfl, rfl, _, rfl, iteNS rfl ?_⟩
          exact hend _ _
        | str hs =>
          cases ady
          refine iteF ?_
          refine ⟨_, rfl, _, _, rfl, .str hs, _, rfl, iteF ?_⟩
          refine ⟨_, rfl, _, _, rfl, .str hs, _, rfl, iteT ?_⟩
          refine ⟨_, rfl, _, _, rfl, .str hs, _, rfl, iteF ?_⟩
          refine ⟨_, rfl, _, rfl, ?_, _, rfl, iteNS rfl ?_⟩
          · rfl
          · exact hend _ _

def spLaw (K : PySem.W.Frag) : Sp := fun vs H Q _ => ∃ (a : Addr) (ns : List Int), vs = [.ref a] ∧ SqL K H a (ns.map V.int) ∧ ns.length ≤ 63 ∧ ∀ H', Q (.bl true) H'

end
end K05

set_option Elab.async false
set_option linter.all false
set_option maxRecDepth 100000
set_option maxHeartbeats 4000000
namespace K05
open PySem L2 Fx
section
variable {P : Program} {w : World} {K : PySem.W.Frag} {mg : Str → Option Value} {base : Heap}
/-! ### played -/
def spPlayed (C : Addr) : Sp := fun vs H Q E => ∃ (G : Hp) (b : V) (B : Brd) (pv : V) (p : Plc) (s : Bool) (ra : Addr) (W : List Plc) (rs ex : List Int), vs = [b, pv, .str (sd s), .ref ra] ∧ Same G H ∧ At G b (boardD B) ∧ Good B ∧ At G pv (posD p) ∧ p ∈ allPos B.n ∧
  G ra = some (.lst ((rs ++ ex).map V.int)) ∧ WalkB B s p W rs ∧ W.length ≤ 300 ∧
  (((ex = [] ∨ winAt B (endOf p W) ≠ none) ∧ ∀ (G' H' : Hp) (r : V) (tail : List Plc), Ext G H G' H' → tail.length ≤ 1 → (winAt B (endOf p W) ≠ none → tail = []) → At G' r (.list ((p :: (W ++ tail)).map posD)) → Q r H') ∨
    ((∃ y ex', ex = y :: ex' ∧ winAt B (endOf p W) = none ∧ (endOf p W).t ≠ s ∧ y ∉ waysB B (endOf p W)) ∧ ∀ H', Same H H' → E (.ref C) none H'))
theorem scPlayed : FnScope ["board", "position", "side", "replies", "verdicts", "game", "here", "used"] ["board", "position", "side", "replies"] (defScope sPlayed) := ⟨rfl, rfl, rfl, by decide +kernel, rfl, by decide +kernel, by decide +kernel⟩
/-- how far the game has come -/
def StageB (B : Brd) (s : Bool) (p : Plc) (W : List Plc) (rs : List Int) (Wd : List Plc) (q : Plc) (u m : Nat) : Prop :=
  (∃ Wr rd rr, W = Wd ++ Wr ∧ rs = rd ++ rr ∧ u = rd.length ∧ endOf p Wd = q ∧ WalkB B s q Wr rr ∧ m = Wr.length + 2) ∨ (Wd = W ++ [q] ∧ q.t ≠ s ∧ u = rs.length ∧ winAt B (endOf p W) = none ∧ (endOf p W).t = s ∧ m = 1)
structure PlAt (B : Brd) (p : Plc) (G H G1 H1 : Hp) (ga ha : Addr) (Wd : List Plc) (q : Plc) : Prop where
  x : Ext G H G1 H1
  l : ∃ xs, Own H G1 H1 ga (.lst xs) ∧ AtAll G1 xs ((p :: Wd).map posD)
  h : G1 ha = some (.tup (posV q))
  inn : q ∈ allPos B.n
theorem ok_played {f : Addr} {fd : FuncData} (F : Fun K "played" "played" sPlayed f fd) (T : Txt mg) (L_NoLane : Kls K mg "NoLane") (C_verdicts_on : Cal P w K mg base 6 "verdicts_on" ["board"] spVerdicts)
    (C_moved : Cal P w K mg base 1 "moved" ["position", "yard"] spMoved) (C_check_lane : CalX P w K mg base 3 "check_lane" ["board", "position", "yard"] (spLane L_NoLane.C)) : FnOk P w K mg base (CX1 P w) 7 f fd ["board", "position", "side", "replies"] (spPlayed L_NoLane.C) := by
  refine fun_okX F scPlayed (fun vs H Q E h => ?_) (fun cdv A outer s H vs Q E hr h => ?_)
  · obtain ⟨G, b, B, pv, p, t, ra, W, rs, ex, rfl, _⟩ := h
    rfl
  · obtain ⟨G, b, B, pv, p, t, ra, W, rs, ex, rfl, hG, hb, g, hpv, hp, hra, wk, hW, hQ⟩ := h
    have hr_ : ∀ {j : Nat}, j ≤ 6 → Room j _ := fun h => hr.mono h
    obtain ⟨pa, rfl, hpa⟩ := hpv.pos
    refine ⟨_, (pss_cons (ps_set (i := 4) scPlayed.nd rfl (Or.inl rfl) (pe_call C_verdicts_on.ok (hr_ (by decide)) rfl C_verdicts_on.mg C_verdicts_on.kp C_verdicts_on.b .nil pass0 (pa_cons (pv 0) pa_nil)))
      (pss_cons (ps_set (i := 5) scPlayed.nd rfl (Or.inl rfl) (pe_lst (pa_cons (pv 1) pa_nil)))
      (pss_cons (ps_set (i := 6) scPlayed.nd rfl (Or.inl rfl) (pv 1))
      (pss_cons (ps_set (i := 7) scPlayed.nd rfl (Or.inl rfl) pe_int)
      (pss_cons (ps_while own1 (pt_cmp (pc_notN (pe_ix (ix_K (K := K) rfl) (pe_dget (hu_of hr) (pv 4) (pv 6) (fun _ _ => rfl)) pe_int (fun _ _ => rfl))))
       (pss_cons (ps_if (pt_cmpR op_eq (pe_ix (ix_K (K := K) rfl) (pv 6) pe_int (fun _ _ => rfl)) (pv 2) (nomark _))
         (pss_one (ps_set (i := 6) scPlayed.nd rfl (Or.inl rfl) (pe_call C_moved.ok (hr_ (by decide)) rfl C_moved.mg C_moved.kp C_moved.b .nil pass0 (pa_cons (pv 6) (pa_cons (pe_ix (ix_K (K := K) rfl) (pe_dget (hu_of hr) (pv 4) (pv 6) (fun _ _ => rfl)) pe_int (fun _ _ => rfl)) pa_nil)))))
         (pss_one (ps_if (pt_cmpR op_lt (pv 7) (pe_callB (len_K (K := K) rfl) rfl T.n_len b_len (pa_cons (pv 3) pa_nil)) (nomark _))
           (pss_cons (ps_expr (pe_call C_check_lane.ok (hr_ (by decide)) rfl C_check_lane.mg C_check_lane.kp C_check_lane.b .nil pass1 (pa_cons (pv 0) (pa_cons (pv 6) (pa_cons (pe_ix (ix_K (K := K) rfl) (pv 3) (pv 7) (fun _ _ => rfl)) pa_nil)))))
            (pss_cons (ps_set (i := 6) scPlayed.nd rfl (Or.inl rfl) (pe_call C_moved.ok (hr_ (by decide)) rfl C_moved.mg C_moved.kp C_moved.b .nil pass0 (pa_cons (pv 6) (pa_cons (pe_ix (ix_K (K := K) rfl) (pv 3) (pv 7) (fun _ _ => rfl)) pa_nil))))
            (pss_one (ps_set (i := 7) scPlayed.nd rfl (Or.inl rfl) (pe_op op_add (pv 7) pe_int)))))
           (pss_one (ps_ret (pv 5))))))
        (pss_one (ps_expr (append_K (K := K) rfl (pv 5) (pa_cons (pv 6) pa_nil))))))
      (pss_one (ps_ret (pv 5)))))))), ?_⟩
    refine ⟨_, rfl, G, b, B, rfl, hG, hb, g, fun G1 H1 va o vkv x1 v1 t1 => ?_⟩
    refine ⟨_, rfl, few (by show 1 ≤ 1000; decide), fun ga hga => ?_⟩
    have x2 := x1.lay (o := .lst [.ref pa]) hga
    have l2 := Own.fresh (o := .lst [.ref pa]) x1 hga
    generalize upd H1 ga (.lst [.ref pa]) = H2 at x2 l2
    refine ⟨_, rfl, ?_⟩
    have pa1 := x1.gg _ _ hpa
    have ra1 := x1.gg _ _ hra
    have hb1 := hb.mono x1.gg
    dsimp only [gName]
    refine seq_two (fun σ' H' => σ' = [some b, some (.ref pa), some (.str (sd t)), some (.ref ra), some (.ref va), some (.ref ga), some (.ref pa), some (.int ((0 : Nat) : Int))] ∧ H' = H2) ?_ (fun t => t _ _ ⟨rfl, rfl⟩)
    rintro σ' HX ⟨rfl, eX⟩
    rw [← eX] at x2 l2
    clear eX
    refine ⟨fun m σ H' => ∃ (G4 : Hp) (Wd : List Plc) (q : Plc) (ha : Addr) (u : Nat), σ = [some b, some (.ref pa), some (.str (sd t)), some (.ref ra), some (.ref va), some (.ref ga), some (.ref ha), some (.int (u : Int))] ∧ Same G1 G4 ∧ PlAt B p G H G4 H' ga ha Wd q ∧ StageB B t p W rs Wd q u m,
      ⟨_, G1, [], p, pa, 0, rfl, Same.refl _, ⟨x2, ⟨[.ref pa], l2, .one (pos_at pa1)⟩, pa1, hp⟩, .inl ⟨W, [], rs, rfl, rfl, rfl, rfl, wk, rfl⟩⟩, ?_⟩
    clear x2 l2 hga
    rintro m σ H4 ⟨G4, Wd, pl, ha, u, rfl, s4, ⟨x4, ⟨xs, l4, ax⟩, h4, hpm⟩, st⟩
    have v4 := s4 _ _ v1
    have t4 := t1.mono s4
    have h4H := x4.gh _ _ h4
    have ra4 := s4 _ _ ra1
    obtain ⟨vv, ev, av⟩ := t4.at_ pl hpm
    obtain ⟨a, rfl, ha4⟩ := vdD_of av
    have dg : DGet H4 va (.ref ha) (some (.ref a)) := by
      rw [← ev]
      exact get_t (k := posK pl) (rd_frz (x4.gh _ _ v4)) h4H
    have hWd : Wd.length ≤ 301 := by
      rcases st with ⟨Wr, rd, rr, e1, _⟩ | ⟨e1, _⟩
      · rw [e1, List.length_append] at hW
        omega
      · rw [e1, List.length_append]
        show W.length + 1 ≤ 301
        omega
    have fin : ∀ tail, Wd = W ++ tail → tail.length ≤ 1 → (winAt B (endOf p W) ≠ none → tail = []) → (∀ y ex', ex = y :: ex' → winAt B (endOf p W) = none → (endOf p W).t ≠ t → False) → Q (.ref ga) H4 := fun tail e1 e2 e3 e4 => by
      rcases hQ with ⟨_, q⟩ | ⟨⟨yb, exb, e5, hwE, htE, _⟩, _⟩
      · rw [e1] at ax
        exact q _ _ _ tail (l4.join x4) e2 e3 (.lst upd_same (ax.mono (same_upd l4.apart)))
      · exact (e4 yb exb e5 hwE htE).elim
    refine ⟨_, rfl, _, rfl, va, .ref a, rfl, dg, .inr (.inl ⟨a, _, 2, mvV (moveB B pl), rfl, rfl, SqT.of (x4.gh _ _ ha4), atI_nat (j := 2) rfl, _, rfl, ?_⟩)⟩
    rw [mv_non]
    cases em : moveB B pl with
    | none =>
      refine iteF ?_
      obtain ⟨sw, hsw⟩ := move_end g hpm em
      refine ⟨_, rfl, ?_⟩
      rcases st with ⟨Wr, rd, rr, e1, e2, e3, e4, wk', e5⟩ | ⟨e1, e2, e3, e4, e4', e5⟩
      · cases wk' with
        | nil _ =>
          rw [List.append_nil] at e1
          exact fin [] (by rw [List.append_nil]; exact e1.symm) (Nat.zero_le _) (fun _ => rfl) fun _ _ _ hw _ => by
            rw [e1, e4, hsw] at hw
            cases hw
        | own ht hm h => rw [em] at hm; cases hm
        | oth hw ht hy h => rw [hsw] at hw; cases hw
      · exact fin [pl] e1 (Nat.le_refl _) (fun z => absurd e4 z) fun _ _ _ _ ht => ht e4'
    | some y =>
      rw [em] at ha4
      obtain ⟨hwn, hyw, _, hnx⟩ := move_is g hpm em
      refine iteT ?_
      refine ⟨fun σ' H' => ∃ (m' : Nat), m' < m ∧ ∃ (G4 : Hp) (Wd : List Plc) (q : Plc) (ha : Addr) (u : Nat), σ' = [some b, some (.ref pa), some (.str (sd t)), some (.ref ra), some (.ref va), some (.ref ga), some (.ref ha), some (.int (u : Int))] ∧ Same G1 G4 ∧ PlAt B p G H G4 H' ga ha Wd q ∧ StageB B t p W rs Wd q u m', fun _ _ h => h, ?_⟩
      -- the move, and then the append
      refine seq_two (fun σ' H' => ∃ (m' : Nat), m' < m ∧ ∃ (G5 : Hp) (q : Plc) (hb' : Addr) (u' : Nat), σ' = [some b, some (.ref pa), some (.str (sd t)), some (.ref ra), some (.ref va), some (.ref ga), some (.ref hb'), some (.int (u' : Int))] ∧ Same G4 G5 ∧ Ext G H G5 H' ∧ Own H G5 H' ga (.lst xs) ∧ G5 hb' = some (.tup (posV q)) ∧ q ∈ allPos B.n ∧ StageB B t p W rs (Wd ++ [q]) q u' m') ?_ (fun tail => ?_)
      · rintro σ' H6 ⟨m', hm', G5, q', hb', u', rfl, s5, x5, l5, h5, hq5, st5⟩
        refine ⟨_, rfl, tyL l5.is, _, rfl, ga, xs, .ref hb', rfl, rfl, l5.is, ?_, ?_⟩
        · have e := ax.length
          rw [List.length_map, List.length_cons] at e
          exact small1000 (by omega)
        refine ⟨m', hm', G5, Wd ++ [q'], q', hb', u', rfl, s4.trans s5, ⟨l5.write x5, ⟨_, l5.set, ?_⟩, h5, hq5⟩, st5⟩
        rw [← List.cons_append, List.map_append]
        exact (ax.mono s5).append (.one (pos_at h5))
      refine ⟨_, rfl, .inr (.inl ⟨ha, _, 2, .str (sd pl.t), rfl, rfl, SqT.of h4H, atI_nat (j := 2) rfl, _, rfl, rfl, _, rfl, ?_⟩)⟩
      rw [sd_eq]
      refine ite2 (fun e => ?_) (fun e => ?_)
      · have e : pl.t = t := of_decide_eq_true e
        refine ⟨_, rfl, _, rfl, _, rfl, va, .ref a, rfl, dg, .inr (.inl ⟨a, _, 2, .int y, rfl, rfl, SqT.of (x4.gh _ _ ha4), atI_nat (j := 2) rfl, ?_⟩)⟩
        refine ⟨G4, .ref ha, pl, y, rfl, x4.gh, pos_at h4, fun G6 H6 r6 x6 ar6 => ?_⟩
        obtain ⟨hb6, rfl, hh6⟩ := ar6.pos
        have x46 := x4.trans x6
        have l6 := l4.ext x6
        have tn : (nxt pl y).t ≠ t := by rw [nxt_t, e]; exact not_self t
        rcases st with ⟨Wr, rd, rr, e1, e2, e3, e4, wk', e5⟩ | ⟨e1, e2, e3, e4, _, e5⟩
        · cases wk' with
          | nil _ =>
            rw [List.append_nil] at e1 e2
            subst e1 e2
            exact tail _ _ ⟨1, by rw [e5]; exact Nat.lt_succ_self 1, G6, nxt pl y, hb6, u, rfl, x6.gg, x46, l6, hh6, hnx, .inr ⟨rfl, tn, e3, by rw [e4]; exact hwn, by rw [e4]; exact e, rfl⟩⟩
          | own ht hm h =>
            rw [em] at hm
            cases hm
            rename_i W'
            refine tail _ _ ⟨W'.length + 2, by rw [e5, List.length_cons]; omega, G6, nxt pl y, hb6, u, rfl, x6.gg, x46, l6, hh6, hnx, .inl ⟨W', rd, rr, ?_, e2, e3, endOf_snoc _ _ _, h, rfl⟩⟩
            rw [List.append_assoc]
            exact e1
          | oth hw ht hy h => exact absurd e ht
        · exact absurd e e2
      · have e : pl.t ≠ t := fun z => e (decide_eq_true z)
        refine ⟨_, rfl, _, rfl, ra, _, rfl, .inl (SqL.of (x4.gh _ _ ra4)), _, _, rfl, rfl, _, rfl, ?_⟩
        refine ite2 (fun e2 => ?_) (fun e2 => ?_)
        · have hu : u < (rs ++ ex).length := by
            have := of_decide_eq_true e2
            rw [List.length_map] at this
            omega
          have key : (∃ y2 Wr' rd rr', y2 ∈ waysB B pl ∧ W = Wd ++ (nxt pl y2 :: Wr') ∧ rs = rd ++ y2 :: rr' ∧ u = rd.length ∧ WalkB B t (nxt pl y2) Wr' rr' ∧ m = Wr'.length + 1 + 2) ∨ (∃ y2 ex', ex = y2 :: ex' ∧ u = rs.length ∧ y2 ∉ waysB B pl ∧ ∀ H', Same H H' → E (.ref L_NoLane.C) none H') := by
            rcases st with ⟨Wr, rd, rr, f1, f2, f3, f4, wk', f5⟩ | ⟨f1, f2, f3, f4, f4', f5⟩
            · cases wk' with
              | nil _ =>
                rw [List.append_nil] at f1 f2
                subst f1 f2
                rcases hQ with ⟨z | z, _⟩ | ⟨⟨yb, exb, e5, hwE, htE, hyE⟩, qe⟩
                · rw [z, List.append_nil] at hu
                  omega
                · rw [f4, hwn] at z
                  exact absurd rfl z
                · rw [f4] at hyE
                  exact .inr ⟨yb, exb, e5, f3, hyE, qe⟩
              | own ht hm h => exact absurd ht e
              | oth hw ht hy h => exact .inl ⟨_, _, rd, _, hy, f1, f2, f3, h, by rw [f5, List.length_cons]⟩
            · rcases hQ with ⟨z | z, _⟩ | ⟨⟨yb, exb, e5, hwE, htE, hyE⟩, qe⟩
              · rw [z, List.append_nil] at hu
                omega
              · exact absurd f4 z
              · exact absurd f4' htE
          rcases key with ⟨y2, Wr', rd, rr', hy2, f1, f2, f3, wk', f5⟩ | ⟨y2, ex', e5, f3, hy2, qe⟩
          rotate_left
          · have hat : atI ((rs ++ ex).map V.int) (u : Int) = some (.int y2) := by
              refine atI_nat ?_
              rw [e5, f3, List.getElem?_map, List.getElem?_append_right (Nat.le_refl _), Nat.sub_self]
              rfl
            refine ⟨_, rfl, _, rfl, _, rfl, _, rfl, .inl ⟨ra, _, (u : Int), .int y2, rfl, rfl, SqL.of (x4.gh _ _ ra4), hat, ?_⟩⟩
            exact ⟨G4, b, .ref ha, B, pl, y2, rfl, x4.gh, hb1.mono s4, pos_at h4, g.len, fun H5 s5 z => absurd z hy2, fun H5 s5 _ => qe _ (x4.hh.trans s5)⟩
          have hat : atI ((rs ++ ex).map V.int) (u : Int) = some (.int y2) := by
            refine atI_nat ?_
            rw [f2, f3, List.getElem?_map, List.append_assoc, List.getElem?_append_right (Nat.le_refl _), Nat.sub_self]
            rfl
          refine ⟨_, rfl, _, rfl, _, rfl, _, rfl, .inl ⟨ra, _, (u : Int), .int y2, rfl, rfl, SqL.of (x4.gh _ _ ra4), hat, ?_⟩⟩
          refine ⟨G4, b, .ref ha, B, pl, y2, rfl, x4.gh, hb1.mono s4, pos_at h4, g.len, fun H5 s5 _ => ?_, fun H5 s5 z => absurd hy2 z⟩
          have x5 : Ext G H G4 H5 := x4.trans (Ext.grow x4.gh s5)
          have l5 : Own H G4 H5 ga (.lst xs) := ⟨l4.new, l4.apart, s5 _ _ l4.is⟩
          refine ⟨_, rfl, _, rfl, _, rfl, .inl ⟨ra, _, (u : Int), .int y2, rfl, rfl, SqL.of (x5.gh _ _ ra4), hat, ?_⟩⟩
          refine ⟨G4, .ref ha, pl, y2, rfl, x5.gh, pos_at h4, fun G6 H6 r6 x6 ar6 => ?_⟩
          obtain ⟨hb6, rfl, hh6⟩ := ar6.pos
          have x46 := x5.trans x6
          have l6 := l5.ext x6
          refine ⟨_, rfl, _, _, rfl, rfl, ?_⟩
          dsimp only [gName]
          rw [show (u : Int) + 1 = ((u + 1 : Nat) : Int) by omega]
          refine tail _ _ ⟨Wr'.length + 2, by rw [f5]; omega, G6, nxt pl y2, hb6, u + 1, rfl, x6.gg, x46, l6, hh6, way_pos g hpm hy2, .inl ⟨Wr', rd ++ [y2], rr', ?_, ?_, ?_, endOf_snoc _ _ _, wk', rfl⟩⟩
          · rw [List.append_assoc]
            exact f1
          · rw [List.append_assoc]
            exact f2
          · rw [List.length_append, f3]
            rfl
        · have hu : ¬ u < (rs ++ ex).length := fun z => e2 (decide_eq_true (by rw [List.length_map]; omega))
          refine ⟨_, rfl, ?_⟩
          rcases st with ⟨Wr, rd, rr, f1, f2, f3, f4, wk', f5⟩ | ⟨f1, f2, f3, f4, f4', f5⟩
          · cases wk' with
            | nil _ =>
              rw [List.append_nil] at f1
              exact fin [] (by rw [List.append_nil]; exact f1.symm) (Nat.zero_le _) (fun _ => rfl) fun y' ex' e5 _ _ => hu (by rw [f2, f3, e5]; simp)
            | own ht hm h => exact absurd ht e
            | oth hw ht hy h =>
              rw [f2, f3] at hu
              simp at hu
          · exact fin [pl] f1 (Nat.le_refl _) (fun z => absurd f4 z) fun _ _ _ _ ht => ht f4'

/-! ### _law_same_places -/
def spSame : Sp := fun vs H Q _ => ∃ (x y : V) (ps : List Plc), vs = [x, y] ∧ At H x (.list (ps.map posD)) ∧ At H y (.list (ps.map posD)) ∧ ps.length ≤ 500 ∧ Q (.bl true) H
theorem scSame : FnScope ["_law_found", "_law_due", "_law_k"] ["_law_found", "_law_due"] (defScope sSame) := ⟨rfl, rfl, rfl, by decide +kernel, rfl, by decide +kernel, by decide +kernel⟩
theorem ok_same {f : Addr} {fd : FuncData} (F : Fun K "_law_same_places" "_law_same_places" sSame f fd) (T : Txt mg) (C__law_is_place : Cal P w K mg base 2 "_law_is_place" ["_law_found"] spIsPlace) : FnOk P w K mg base CX0 3 f fd ["_law_found", "_law_due"] spSame := by
  refine F.ok scSame (fun vs H Q E h => ?_) (fun cdv A outer s H vs Q E hr h => ?_)
  · obtain ⟨x, y, ps, rfl, _⟩ := h
    rfl
  · obtain ⟨x, y, ps, rfl, hx, hy, hl, q⟩ := h
    have hr_ : ∀ {j : Nat}, j ≤ 2 → Room j _ := fun h => hr.mono h
    refine ⟨_, (pss_cons (ps_if (PW.pt (pw_or (pt_not (pt_val (pe_callB isi_list rfl T.n_isinstance b_isinstance (pa_cons (pv 0) (pa_cons (pe_ty "list" rfl T.n_list b_list) pa_nil))))) (pw_or1 (pt_cmpR op_ne (pe_callB (len_K (K := K) rfl) rfl T.n_len b_len (pa_cons (pv 0) pa_nil)) (pe_callB (len_K (K := K) rfl) rfl T.n_len b_len (pa_cons (pv 1) pa_nil)) (nomark _)))))
       (pss_one (ps_ret pe_bl))
       pss_nil)
      (pss_cons (ps_for PassesOwn.never rfl (pi_range1 rfl T.n_range (pa_cons (pe_callB (len_K (K := K) rfl) rfl T.n_len b_len (pa_cons (pv 1) pa_nil)) pa_nil)) (pg_name (i := 2) scSame.nd rfl (Or.inl rfl))
       (pss_one (ps_if (PW.pt (pw_or (pt_not (pt_val (pe_call C__law_is_place.ok (hr_ (by decide)) rfl C__law_is_place.mg C__law_is_place.kp C__law_is_place.b .nil pass0 (pa_cons (pe_ix (ix_K (K := K) rfl) (pv 0) (pv 2) (fun _ _ => rfl)) pa_nil)))) (pw_or1 (pt_cmpR (op_neD hr) (pe_ix (ix_K (K := K) rfl) (pv 0) (pv 2) (fun _ _ => rfl)) (pe_ix (ix_K (K := K) rfl) (pv 1) (pv 2) (fun _ _ => rfl)) (nomark _)))))
         (pss_one (ps_ret pe_bl))
         pss_nil)))
      (pss_one (ps_ret pe_bl)))), ?_⟩
    refine ⟨_, rfl, _, _, rfl, hx, _, rfl, iteF ?_⟩
    cases hx with
    | lst hxa ax =>
    rename_i xa xs
    cases hy with
    | lst hya ay =>
    rename_i ya ys
    have e1 : xs.length = ps.length := by rw [ax.length, List.length_map]
    have e2 : ys.length = ps.length := by rw [ay.length, List.length_map]
    refine ⟨_, rfl, xa, _, rfl, .inl (SqL.of hxa), _, rfl, ya, _, rfl, .inl (SqL.of hya), rfl, _, rfl, ?_⟩
    refine iteNS (by rw [e1, e2]) ?_
    refine ⟨_, rfl, ya, _, rfl, .inl (SqL.of hya), (ys.length : Int), rfl, by omega, by omega, ?_⟩
    rw [Int.toNat_natCast, e2]
    refine for_range (lo := 0) (n := ps.length) (fun i σ H' => ∃ v, σ = [some (.ref xa), some (.ref ya), v] ∧ H' = H) ⟨none, rfl, rfl⟩ ?_ ?_
    · rintro i σ H' hi ⟨v, rfl, rfl⟩
      have ei : ((0 : Int) + (i : Int)) = (i : Int) := by omega
      show _
      rw [ei]
      obtain ⟨u, p1, h1, h2, a1⟩ := pick_at ax (k := i) hi
      obtain ⟨u2, p2, h3, h4, a2⟩ := pick_at ay (k := i) hi
      rw [h2] at h4
      cases h4
      refine ⟨_, rfl, _, rfl, .inl ⟨xa, _, (i : Int), u, rfl, rfl, SqL.of hxa, atI_nat h1, u, p1, rfl, a1, _, rfl, iteF ?_⟩⟩
      refine ⟨_, rfl, _, rfl, .inl ⟨xa, _, (i : Int), u, rfl, rfl, SqL.of hxa, atI_nat h1, _, rfl, _, rfl, .inl ⟨ya, _, (i : Int), u2, rfl, rfl, SqL.of hya, atI_nat h3, posD p1, posD p1, a1, a2, Nat.le_trans (Nat.min_le_left _ _) (pos_depth _), _, rfl, ?_⟩⟩⟩
      rw [eqv_pos, decide_eq_true rfl]
      exact iteF ⟨_, rfl, rfl⟩
    · rintro σ H' ⟨v, rfl, rfl⟩
      exact q
/-! ### _law_game_by -/
def spGameBy : Sp := fun vs H Q _ => ∃ (G : Hp) (b : V) (B : Brd) (ta : Addr) (kvs : List (List Key × V)) (pv : V) (p : Plc) (t : Bool) (ca : Addr) (cells : List Int) (most : Nat), vs = [b, .ref ta, pv, .str (sd t), .ref ca, .int (most : Int)] ∧ Same G H ∧ At G b (boardD B) ∧ Good B ∧
  Rd H ta (.dT kvs) ∧ TellsD G kvs (allPos B.n) (entD B) ∧ At G pv (posD p) ∧ p ∈ allPos B.n ∧ G ca = some (.lst (cells.map V.int)) ∧ cells ≠ [] ∧ most ≤ 200 ∧
  ∀ (G' H' : Hp) (ga ma ra : Addr) (W : List Plc) (rs : List Int), Ext G H G' H' → G' ga = some (.tup [.ref ma, .ref ra]) → At G' (.ref ma) (.list ((p :: W).map posD)) → G' ra = some (.lst (rs.map V.int)) → WalkB B t p W rs → W.length ≤ most → (winAt B (endOf p W) ≠ none ∨ W.length = most) → Q (.ref ga) H'
theorem scGameBy : FnScope ["_law_board", "_law_table", "_law_start", "_law_side", "_law_cells", "_law_most", "_law_made", "_law_replies", "_law_here", "_law_ways", "_law_yard"] ["_law_board", "_law_table", "_law_start", "_law_side", "_law_cells", "_law_most"] (defScope sGameBy) := ⟨rfl, rfl, rfl, by decide +kernel, rfl, by decide +kernel, by decide +kernel⟩
structure GmAt (B : Brd) (t : Bool) (p : Plc) (G H G1 H1 : Hp) (ma ra ha : Addr) (W : List Plc) (rs : List Int) : Prop where
  x : Ext G H G1 H1
  l : ∃ xs, Own H G1 H1 ma (.lst xs) ∧ AtAll G1 xs ((p :: W).map posD)
  r : Own H G1 H1 ra (.lst (rs.map V.int))
  h : G1 ha = some (.tup (posV (endOf p W)))
  wk : WalkB B t p W rs
theorem ok_gameBy {f : Addr} {fd : FuncData} (F : Fun K "_law_game_by" "_law_game_by" sGameBy f fd) (T : Txt mg) (C__law_winner_at : Cal P w K mg base 2 "_law_winner_at" ["_law_board", "_law_position"] spWinnerAt) (C__law_ways_of : Cal P w K mg base 1 "_law_ways_of" ["_law_board", "_law_yard"] spWaysOf)
    (C__law_yard_of : Cal P w K mg base 1 "_law_yard_of" ["_law_position"] spYardOf) (C__law_next : Cal P w K mg base 1 "_law_next" ["_law_position", "_law_yard"] spNext) : FnOk P w K mg base CX0 3 f fd ["_law_board", "_law_table", "_law_start", "_law_side", "_law_cells", "_law_most"] spGameBy := by
  refine F.ok scGameBy (fun vs H Q E h => ?_) (fun cdv A outer s H vs Q E hr h => ?_)
  · obtain ⟨G, b, B, ta, kvs, pv, p, t, ca, cells, most, rfl, _⟩ := h
    rfl
  · obtain ⟨G, b, B, ta, kvs, pv, p, t, ca, cells, most, rfl, hG, hb, g, hta, tt, hpv, hp, hca, hne, hmost, q⟩ := h
    have hr_ : ∀ {j : Nat}, j ≤ 2 → Room j _ := fun h => hr.mono h
    obtain ⟨pa, rfl, hpa⟩ := hpv.pos
    have hcl : 0 < cells.length := List.length_pos_iff.mpr hne
    refine ⟨_, (pss_cons (ps_set (i := 6) scGameBy.nd rfl (Or.inl rfl) (pe_lst (pa_cons (pv 2) pa_nil)))
      (pss_cons (ps_set (i := 7) scGameBy.nd rfl (Or.inl rfl) (pe_lst pa_nil))
      (pss_cons (ps_set (i := 8) scGameBy.nd rfl (Or.inl rfl) (pv 2))
      (pss_cons (ps_while PassesOwn.never (PW.pt (pw_and (pt_cmp (pc_isN (pe_call C__law_winner_at.ok (hr_ (by decide)) rfl C__law_winner_at.mg C__law_winner_at.kp C__law_winner_at.b .nil pass0 (pa_cons (pv 0) (pa_cons (pv 8) pa_nil))))) (pw_and1 (pt_cmpR op_le (pe_callB (len_K (K := K) rfl) rfl T.n_len b_len (pa_cons (pv 6) pa_nil)) (pv 5) (nomark _)))))
       (pss_cons (ps_set (i := 9) scGameBy.nd rfl (Or.inl rfl) (pe_call C__law_ways_of.ok (hr_ (by decide)) rfl C__law_ways_of.mg C__law_ways_of.kp C__law_ways_of.b .nil pass0 (pa_cons (pv 0) (pa_cons (pe_call C__law_yard_of.ok (hr_ (by decide)) rfl C__law_yard_of.mg C__law_yard_of.kp C__law_yard_of.b .nil pass0 (pa_cons (pv 8) pa_nil)) pa_nil))))
        (pss_cons (ps_set (i := 10) scGameBy.nd rfl (Or.inl rfl) (pe_ix (ix_K (K := K) rfl) (pe_dget (hu_of hr) (pv 1) (pv 8) (fun _ _ => rfl)) pe_int (fun _ _ => rfl)))
        (pss_cons (ps_if (pt_cmpR op_ne (pe_ix (ix_K (K := K) rfl) (pv 8) pe_int (fun _ _ => rfl)) (pv 3) (nomark _))
         (pss_cons (ps_set (i := 10) scGameBy.nd rfl (Or.inl rfl) (pe_ix (ix_K (K := K) rfl) (pv 9) (pe_op op_mod (pe_op op_add (pe_ix (ix_K (K := K) rfl) (pv 4) (pe_op op_mod (pe_callB (len_K (K := K) rfl) rfl T.n_len b_len (pa_cons (pv 6) pa_nil)) (pe_callB (len_K (K := K) rfl) rfl T.n_len b_len (pa_cons (pv 4) pa_nil))) (fun _ _ => rfl)) (pe_callB (len_K (K := K) rfl) rfl T.n_len b_len (pa_cons (pv 6) pa_nil))) (pe_callB (len_K (K := K) rfl) rfl T.n_len b_len (pa_cons (pv 9) pa_nil))) (fun _ _ => rfl)))
          (pss_one (ps_expr (append_K (K := K) rfl (pv 7) (pa_cons (pv 10) pa_nil)))))
         pss_nil)
        (pss_cons (ps_if (pt_cmpR (op_notInD hr) (pv 10) (pv 9) (by with_unfolding_all rfl))
         (pss_one (ps_ret pe_non))
         pss_nil)
        (pss_cons (ps_set (i := 8) scGameBy.nd rfl (Or.inl rfl) (pe_call C__law_next.ok (hr_ (by decide)) rfl C__law_next.mg C__law_next.kp C__law_next.b .nil pass0 (pa_cons (pv 8) (pa_cons (pv 10) pa_nil))))
        (pss_one (ps_expr (append_K (K := K) rfl (pv 6) (pa_cons (pv 8) pa_nil))))))))))
      (pss_one (ps_ret (pe_tup (pa_cons (pv 6) (pa_cons (pv 7) pa_nil))))))))), ?_⟩
    refine ⟨_, rfl, few (by show 1 ≤ 1000; decide), fun ma hma => ?_⟩
    have x1 := (Ext.refl hG).lay (o := .lst [.ref pa]) hma
    have l1 := Own.fresh (o := .lst [.ref pa]) (Ext.refl hG) hma
    generalize upd H ma (.lst [.ref pa]) = H1 at x1 l1
    refine ⟨by decide, fun ra hra => ?_⟩
    have x2 := x1.lay (o := .lst []) hra
    have l2 := l1.lay (u := .lst []) hra
    have r2 := Own.fresh (o := .lst []) x1 hra
    have nmr : ma ≠ ra := ne_of_none l1.is hra
    generalize upd H1 ra (.lst []) = H2 at x2 l2 r2
    refine ⟨_, rfl, ?_⟩
    refine ⟨fun m σ H' => ∃ (G3 : Hp) (W : List Plc) (rs : List Int) (ha : Addr) (v9 v10 : Option V), σ = [some b, some (.ref ta), some (.ref pa), some (.str (sd t)), some (.ref ca), some (.int (most : Int)), some (.ref ma), some (.ref ra), some (.ref ha), v9, v10] ∧ GmAt B t p G H G3 H' ma ra ha W rs ∧ W.length ≤ most ∧ m = most - W.length,
      ⟨_, G, [], [], pa, none, none, rfl, ⟨x2, ⟨[.ref pa], l2, .one (pos_at hpa)⟩, r2, hpa, .nil p⟩, Nat.zero_le _, rfl⟩, ?_⟩
    clear x2 l2 r2 x1 l1 hma hra
    rintro m σ H3 ⟨G3, W, rs, ha, v9, v10, rfl, ⟨x3, ⟨xs, l3, ax⟩, r3, h3, wk⟩, hlen, rfl⟩
    have hpe := (wk.inn g hp).1
    have hxl : xs.length = W.length + 1 := by rw [ax.length, List.length_map, List.length_cons]
    generalize hq : endOf p W = pl at *
    have hb3 := hb.mono x3.gg
    -- what comes of it
    have fin : ∀ H4, Same H3 H4 → (winAt B pl ≠ none ∨ W.length = most) → few (by show 2 ≤ 1000; decide) = few (by show 2 ≤ 1000; decide) → ∀ c, H4 c = none → Q (.ref c) (upd H4 c (.tup [.ref ma, .ref ra])) := fun H4 s4 hor _ c hc => by
      have x4 : Ext G H G3 H4 := x3.trans (Ext.grow x3.gh s4)
      have l4 : Own H G3 H4 ma (.lst xs) := ⟨l3.new, l3.apart, s4 _ _ l3.is⟩
      have r4 : Own H G3 H4 ra (.lst (rs.map V.int)) := ⟨r3.new, r3.apart, s4 _ _ r3.is⟩
      have x5 := l4.join x4
      have r5 := l4.joined r4 nmr.symm
      have x6 := r5.join x5
      have s5 : Same G3 (upd G3 ma (.lst xs)) := same_upd l4.apart
      have s6 : Same (upd G3 ma (.lst xs)) (upd (upd G3 ma (.lst xs)) ra (.lst (rs.map V.int))) := same_upd r5.apart
      have s7 : Same (upd (upd G3 ma (.lst xs)) ra (.lst (rs.map V.int))) (upd (upd (upd G3 ma (.lst xs)) ra (.lst (rs.map V.int))) c (.tup [.ref ma, .ref ra])) := same_upd (x6.gh.free hc)
      refine q _ _ c ma ra W rs (x6.put hc) upd_same ?_ (s7 _ _ upd_same) wk hlen (by rw [hq]; exact hor)
      exact .lst (s7 _ _ (s6 _ _ upd_same)) (((ax.mono s5).mono s6).mono s7)
    -- winner_at(here) is None and len(made) <= most
    refine ⟨_, rfl, _, rfl, G3, b, .ref ha, B, pl, rfl, x3.gh, hb3, pos_at h3, g.len, fun H4 s4 => ⟨_, rfl, ?_⟩⟩
    cases ew : winAt B pl with
    | some sw =>
      refine iteF (iteF ?_)
      exact ⟨_, rfl, _, rfl, few (by show 2 ≤ 1000; decide), fin H4 s4 (.inl (by rw [ew]; exact fun z => nomatch z)) rfl⟩
    | none =>
      refine iteT ?_
      have x4 : Ext G H G3 H4 := x3.trans (Ext.grow x3.gh s4)
      have l4 : Own H G3 H4 ma (.lst xs) := ⟨l3.new, l3.apart, s4 _ _ l3.is⟩
      have r4 : Own H G3 H4 ra (.lst (rs.map V.int)) := ⟨r3.new, r3.apart, s4 _ _ r3.is⟩
      refine ⟨_, rfl, ma, _, rfl, .inl (SqL.of l4.is), _, rfl, _, _, rfl, rfl, _, rfl, ?_⟩
      refine ite2 (fun e => ?_) (fun e => ?_)
      rotate_left
      · have e : ¬ ((xs.length : Int) ≤ (most : Int)) := fun z => e (decide_eq_true z)
        exact ⟨_, rfl, _, rfl, few (by show 2 ≤ 1000; decide), fin H4 s4 (.inr (by omega)) rfl⟩
      have e : W.length < most := by
        have := of_decide_eq_true e
        omega
      refine ⟨fun σ' H' => ∃ (G3 : Hp) (W' : List Plc) (rs : List Int) (ha : Addr) (v9 v10 : Option V), σ' = [some b, some (.ref ta), some (.ref pa), some (.str (sd t)), some (.ref ca), some (.int (most : Int)), some (.ref ma), some (.ref ra), some (.ref ha), v9, v10] ∧ GmAt B t p G H G3 H' ma ra ha W' rs ∧ W'.length = W.length + 1, ?_, ?_⟩
      · rintro σ' H' ⟨G5, W', rs', ha', v9', v10', rfl, R, hl'⟩
        exact ⟨_, by rw [hl']; omega, G5, W', rs', ha', v9', v10', rfl, R, by omega, rfl⟩
      -- ways, yard
      obtain ⟨y, em, hyw, _, _⟩ := move_some g hpe ew
      obtain ⟨tv, etv, atv⟩ := tt.at_ pl hpe
      obtain ⟨c3, c4, rfl, hc3, hc4⟩ := At.ent atv
      rw [em] at hc3
      refine ⟨_, rfl, _, rfl, .ref ha, pl, rfl, pos_at (x4.gh _ _ h3), G3, b, B, yardOf pl, rfl, x4.gh, hb3, g.len, fun G5 H5 r5 x5 ar5 => ?_⟩
      cases ar5 with
      | lst hwa aw =>
      rename_i wa wl
      have ewl := aw.ints_of
      subst ewl
      have x45 := x4.trans x5
      have l5 := l4.ext x5
      have rr5 := r4.ext x5
      have h5 := x5.gg _ _ h3
      have dg : DGet H5 ta (.ref ha) (some (.ref c3)) := by
        rw [← etv]
        exact get_t (k := posK pl) (rd_mono x45.hh hta) (x5.gh _ _ h5)
      refine ⟨_, rfl, _, rfl, ta, .ref c3, rfl, dg, .inr (.inl ⟨c3, _, 3, .int y, rfl, rfl, SqT.of (x5.gh _ _ ((x3.gg.trans x5.gg) _ _ hc3)), atI_nat (j := 3) rfl, ?_⟩)⟩
      dsimp only [gName]
      -- here[2] != side
      refine seq_two (fun σ' H' => ∃ (y' : Int) (rs' : List Int), σ' = [some b, some (.ref ta), some (.ref pa), some (.str (sd t)), some (.ref ca), some (.int (most : Int)), some (.ref ma), some (.ref ra), some (.ref ha), some (.ref wa), some (.int y')] ∧ Ext G H G5 H' ∧ Own H G5 H' ma (.lst xs) ∧ Own H G5 H' ra (.lst (rs'.map V.int)) ∧ y' ∈ waysB B pl ∧ WalkB B t p (W ++ [nxt pl y']) rs') ?_ (fun tail => ?_)
      · rintro σ' H6 ⟨y', rs', rfl, x6, l6, r6, hy', wk'⟩
        refine ⟨_, rfl, _, rfl, .int y', _, .int y', .inl (.lst (x6.gh _ _ hwa) (AtAll.ints _)), by show 0 ≤ 60; decide, _, rfl, ?_⟩
        rw [if_pos rfl, any_int, decide_eq_true (show y' ∈ waysL B.lanes (yardOf pl) from hy')]
        refine iteF ?_
        refine ⟨_, rfl, _, rfl, G5, .ref ha, pl, y', rfl, x6.gh, pos_at h5, fun G7 H7 r7 x7 ar7 => ?_⟩
        obtain ⟨hb7, rfl, hh7⟩ := ar7.pos
        have x67 := x6.trans x7
        have l7 := l6.ext x7
        have r7 := r6.ext x7
        refine ⟨_, rfl, tyL l7.is, _, rfl, ma, xs, .ref hb7, rfl, rfl, l7.is, small1000 (by omega), ?_⟩
        refine ⟨G7, W ++ [nxt pl y'], rs', hb7, _, _, rfl, ⟨l7.write x67, ⟨_, l7.set, ?_⟩, r7.other nmr.symm, ?_, wk'⟩, by rw [List.length_append]; rfl⟩
        · rw [← List.cons_append, List.map_append]
          exact ((ax.mono x5.gg).mono x7.gg).append (.one ar7)
        · rw [endOf_snoc]
          exact hh7
      refine ⟨_, rfl, .inr (.inl ⟨ha, _, 2, .str (sd pl.t), rfl, rfl, SqT.of (x5.gh _ _ h5), atI_nat (j := 2) rfl, _, rfl, rfl, _, rfl, ?_⟩)⟩
      rw [sd_eq]
      by_cases ht : pl.t = t
      · rw [decide_eq_true ht]
        refine iteF ?_
        refine tail _ _ ⟨y, rs, rfl, x45, l5, rr5, hyw, ?_⟩
        have := wk.own_end (y := y) (by rw [hq]; exact ht) (by rw [hq]; exact em)
        rw [hq] at this
        exact this
      · rw [decide_eq_false ht]
        refine iteT ?_
        have hwl : 0 < (waysB B pl).length := List.length_pos_iff.mpr (go_ways ew)
        have hwl' : 0 < ((waysL B.lanes (yardOf pl)).map V.int).length := by rw [List.length_map]; exact hwl
        have hca5 := x45.gh _ _ (x45.gg _ _ hca)
        obtain ⟨j, hj, ej⟩ := mod_nat (z := (xs.length : Int)) (n := (cells.map V.int).length) (by rw [List.length_map]; exact hcl)
        rw [List.length_map] at hj
        refine ⟨_, rfl, _, rfl, _, rfl, ma, _, rfl, .inl (SqL.of l5.is), _, rfl, ca, _, rfl, .inl (SqL.of hca5), _, _, rfl, rfl, (by rw [List.length_map]; omega), .inl ⟨ca, _, _, .int (atD cells j), rfl, rfl, SqL.of hca5, (by rw [ej]; exact atI_int hj), ?_⟩⟩
        refine ⟨_, rfl, ma, _, rfl, .inl (SqL.of l5.is), _, _, rfl, rfl, _, rfl, wa, _, rfl, .inl (SqL.of (x5.gh _ _ hwa)), _, _, rfl, rfl, by omega, ?_⟩
        obtain ⟨k, hk, ek⟩ := mod_nat (z := atD cells j + (xs.length : Int)) (n := ((waysL B.lanes (yardOf pl)).map V.int).length) hwl'
        rw [List.length_map] at hk
        have hyk : atD (waysL B.lanes (yardOf pl)) k ∈ waysB B pl := by
          unfold atD
          rw [List.getD_eq_getElem?_getD, List.getElem?_eq_getElem hk]
          exact List.getElem_mem hk
        refine .inl ⟨wa, _, _, .int (atD (waysL B.lanes (yardOf pl)) k), rfl, rfl, SqL.of (x5.gh _ _ hwa), (by rw [ek]; exact atI_int hk), ?_⟩
        refine ⟨_, rfl, tyL rr5.is, _, rfl, ra, _, .int (atD (waysL B.lanes (yardOf pl)) k), rfl, rfl, rr5.is, ?_, ?_⟩
        · rw [List.length_map]
          have := wk.rs_len
          exact small1000 (by omega)
        refine tail _ _ ⟨_, rs ++ [atD (waysL B.lanes (yardOf pl)) k], rfl, rr5.write x45, l5.other nmr, ?_, hyk, ?_⟩
        · rw [List.map_append]
          exact rr5.set
        · have := wk.oth_end (y := atD (waysL B.lanes (yardOf pl)) k) (by rw [hq]; exact ew) (by rw [hq]; exact ht) (by rw [hq]; exact hyk)
          rw [hq] at this
          exact this

/-! ### _law_barred -/
def spBarred : Sp := fun vs H Q _ => ∃ (G : Hp) (b : V) (B : Brd) (pv : V) (p : Plc) (s : Bool) (ra : Addr) (W : List Plc) (rs : List Int) (y : Int), vs = [b, pv, .str (sd s), .ref ra] ∧ Same G H ∧ At G b (boardD B) ∧ Good B ∧ At G pv (posD p) ∧ p ∈ allPos B.n ∧
  G ra = some (.lst ((rs ++ [y]).map V.int)) ∧ WalkB B s p W rs ∧ W.length ≤ 300 ∧ winAt B (endOf p W) = none ∧ (endOf p W).t ≠ s ∧ y ∉ waysB B (endOf p W) ∧ ∀ H', Same H H' → Q (.bl true) H'
theorem scBarred : FnScope ["_law_board", "_law_start", "_law_side", "_law_replies"] ["_law_board", "_law_start", "_law_side", "_law_replies"] (defScope sBarred) := ⟨rfl, rfl, rfl, by decide +kernel, rfl, by decide +kernel, by decide +kernel⟩
theorem ok_barred {f : Addr} {fd : FuncData} (F : Fun K "_law_barred" "_law_barred" sBarred f fd) (T : Txt mg) (L_NoLane : Kls K mg "NoLane") (M_NoLane_NoLane : PySem.W.exmOne K (.ref L_NoLane.C) (.ref L_NoLane.C) = some true)
    (C_played : CalX P w K mg base 7 "played" ["board", "position", "side", "replies"] (spPlayed L_NoLane.C)) : FnOk P w K mg base CX0 8 f fd ["_law_board", "_law_start", "_law_side", "_law_replies"] spBarred := by
  refine F.ok scBarred (fun vs H Q E h => ?_) (fun cdv A outer s H vs Q E hr h => ?_)
  · obtain ⟨G, b, B, x0, p, t, ra, W, rs, y, rfl, _⟩ := h
    rfl
  · obtain ⟨G, b, B, x0, p, t, ra, W, rs, y, rfl, hG, hb, g, hpv, hp, hra, wk, hW, hw, ht, hy, q⟩ := h
    have hr_ : ∀ {j : Nat}, j ≤ 7 → Room j _ := fun h => hr.mono h
    refine ⟨_, (pss_cons (ps_try ⟨_, rfl, rfl⟩ (fun EX pn xe hx => (pss_one (ps_expr (pe_callS C_played.ok (hr_ (by decide)) rfl C_played.mg C_played.kp C_played.b hx (pa_cons (pv 0) (pa_cons (pv 1) (pa_cons (pv 2) (pa_cons (pv 3) pa_nil))))))))
       (hands_cons rfl rfl L_NoLane.mg (fun _ => (pss_one (ps_ret pe_bl))) hands_nil))
      (pss_one (ps_ret pe_bl))), ?_⟩
    refine ⟨fun _ cls H' => cls = .ref L_NoLane.C ∧ Same H H', ?_, ?_⟩
    · exact ⟨_, rfl, _, rfl, _, rfl, _, rfl, G, b, B, x0, p, t, ra, W, rs, [y], rfl, hG, hb, g, hpv, hp, hra, wk, hW, .inr ⟨⟨y, [], rfl, hw, ht, hy⟩, fun H' s' => ⟨rfl, s'⟩⟩⟩
    · rintro σ cls H' ⟨rfl, s'⟩
      exact ⟨true, M_NoLane_NoLane, iteT (q _ s')⟩

end
end K05

set_option Elab.async false
set_option linter.all false
set_option maxRecDepth 100000
set_option maxHeartbeats 4000000
namespace K05
open PySem L2 Fx
section
variable {P : Program} {w : World} {K : PySem.W.Frag} {mg : Str → Option Value} {base : Heap}
/-! ### _law_strangers -/
def spStrangers : Sp := fun vs H Q _ => ∃ (G : Hp) (b : V) (B : Brd) (ga ma ra : Addr) (p : Plc) (W : List Plc) (rs : List Int) (t : Bool), vs = [b, .ref ga, .str (sd t)] ∧ Same G H ∧ At G b (boardD B) ∧ Good B ∧ G ga = some (.tup [.ref ma, .ref ra]) ∧ At G (.ref ma) (.list ((p :: W).map posD)) ∧ G ra = some (.lst (rs.map V.int)) ∧ WalkB B t p W rs ∧ W.length ≤ 200 ∧
  ∀ (G' H' : Hp) (sa : Addr) (ys : List Int), Ext G H G' H' → G' sa = some (.lst (ys.map V.int)) → (∀ y ∈ ys, ∃ W1 rs1 y0, rs = rs1 ++ [y0] ∧ W1.length ≤ W.length ∧ WalkB B t p W1 rs1 ∧ winAt B (endOf p W1) = none ∧ (endOf p W1).t ≠ t ∧ y ∉ waysB B (endOf p W1)) → Q (.ref sa) H'
theorem scStrangers : FnScope ["_law_board", "_law_game", "_law_who", "_law_spots", "_law_ways"] ["_law_board", "_law_game", "_law_who"] (defScope sStrangers) := ⟨rfl, rfl, rfl, by decide +kernel, rfl, by decide +kernel, by decide +kernel⟩
theorem ok_strangers {f : Addr} {fd : FuncData} (F : Fun K "_law_strangers" "_law_strangers" sStrangers f fd) (T : Txt mg) (C__law_ways_of : Cal P w K mg base 1 "_law_ways_of" ["_law_board", "_law_yard"] spWaysOf)
    (C__law_yard_of : Cal P w K mg base 1 "_law_yard_of" ["_law_position"] spYardOf) : FnOk P w K mg base CX0 2 f fd ["_law_board", "_law_game", "_law_who"] spStrangers := by
  refine F.ok scStrangers (fun vs H Q E h => ?_) (fun cdv A outer s H vs Q E hr h => ?_)
  · obtain ⟨G, b, B, ga, ma, ra, p, W, rs, t, rfl, _⟩ := h
    rfl
  · obtain ⟨G, b, B, ga, ma, ra, p, W, rs, t, rfl, hG, hb, g, hga, hma, hra, wk, hW, q⟩ := h
    have hr_ : ∀ {j : Nat}, j ≤ 1 → Room j _ := fun h => hr.mono h
    refine ⟨_, (pss_cons (ps_if (pt_cmpR (op_eqD hr) (pe_ix (ix_K (K := K) rfl) (pv 1) pe_int (fun _ _ => rfl)) (pe_lst pa_nil) (nomark _))
       (pss_one (ps_ret (pe_lst pa_nil)))
       pss_nil)
      (pss_cons (ps_setComp (i := 3) ["_law_place", "_law_who"] [none, some 2] rfl (cs_mk (N₀ := ["_law_board", "_law_game", "_law_who", "_law_spots", "_law_ways"]) (sc := defScope sStrangers) (by decide +kernel)) (pi_K (K := K) rfl (pe_slice (sl_K (K := K) rfl) (pe_ix (ix_K (K := K) rfl) (pv 1) pe_int (fun _ _ => rfl)) po_none (po_some (pe_un un_neg pe_int)))) (fun _ _ _ _ _ => (pg_name (i := 0) (show (["_law_place", "_law_who"] : List Str).Nodup from by decide +kernel) rfl (Or.inl rfl))) (fun _ _ _ _ _ => (pts_one (pt_cmpR op_ne (pe_ix (ix_K (K := K) rfl) (pv 0) pe_int (fun _ _ => rfl)) (pv 1) (nomark _)))) (fun _ _ _ _ _ => (pv 0)) scStrangers.nd rfl (Or.inl rfl) rfl)
      (pss_cons (ps_set (i := 4) scStrangers.nd rfl (Or.inr rfl) (pe_call C__law_ways_of.ok (hr_ (by decide)) rfl C__law_ways_of.mg C__law_ways_of.kp C__law_ways_of.b .nil pass0 (pa_cons (pv 0) (pa_cons (pe_call C__law_yard_of.ok (hr_ (by decide)) rfl C__law_yard_of.mg C__law_yard_of.kp C__law_yard_of.b .nil pass0 (pa_cons (pe_ix (ix_K (K := K) rfl) (pv 3) (pe_un un_neg pe_int) (fun _ _ => rfl)) pa_nil)) pa_nil))))
      (pss_one (ps_ret (pe_comp ["_law_yard", "_law_ways"] [none, some 4] rfl (cs_mk (N₀ := ["_law_board", "_law_game", "_law_who", "_law_spots", "_law_ways"]) (sc := defScope sStrangers) (by decide +kernel)) (pi_range2 rfl T.n_range (pa_cons (pe_un un_neg pe_int) (pa_cons (pe_op op_add (pe_ix (ix_K (K := K) rfl) (pv 0) pe_int (fun _ _ => rfl)) pe_int) pa_nil))) (fun _ _ _ _ _ => (pg_name (i := 0) (show (["_law_yard", "_law_ways"] : List Str).Nodup from by decide +kernel) rfl (Or.inl rfl))) (fun _ _ _ _ _ => (pts_one (pt_cmpR (op_notInD hr) (pv 0) (pv 1) (by with_unfolding_all rfl)))) (fun _ _ _ _ _ => (pv 0)))))))), ?_⟩
    -- _law_game[1] == []
    refine ⟨_, rfl, .inr (.inl ⟨ga, _, 1, .ref ra, rfl, rfl, SqT.of (hG _ _ hga), atI_nat (j := 1) rfl, by decide, fun q1 hq1 => ?_⟩)⟩
    have s1 := same_upd (o := .lst []) hq1
    have hl : rs.length ≤ 200 := Nat.le_trans wk.rs_len hW
    refine ⟨.list (rs.map .int), .list [], .lst (s1 _ _ (hG _ _ hra)) (AtAll.ints _), .lst upd_same .nil, Nat.le_trans (Nat.min_le_right _ _) (by rw [nil_depth]; decide), _, rfl, ?_⟩
    rw [eqv_nil]
    have g1 : Same G (upd H q1 (.lst [])) := hG.trans s1
    have x1 : Ext G H G (upd H q1 (.lst [])) := (Ext.refl hG).trans (Ext.grow hG s1)
    generalize upd H q1 (.lst []) = H1 at g1 x1
    clear s1
    obtain ⟨Li, eLi⟩ := last_of p W
    rcases wk.spots with ⟨e1, e2⟩ | ⟨W1, rs1, y0, sp, e1, e2, wk1, hw1, ht1, e3⟩
    · subst e1
      refine iteT ?_
      exact ⟨by decide, fun l hl => q _ _ l [] (x1.put hl) upd_same fun y hy => nomatch hy⟩
    rw [decide_eq_false (fun z => by rw [e1] at z; simp at z)]
    refine iteF ?_
    -- _law_spots
    cases hma with
    | lst hma am =>
    rename_i mxs
    have hLl : Li.length ≤ 200 := by
      have e := congrArg List.length eLi
      rw [List.length_append, List.length_cons] at e
      have e' : W.length + 1 = Li.length + 1 := e
      omega
    rw [eLi] at am
    obtain ⟨l0, lv, rfl, a0, a1⟩ := at_snoc am
    have el0 : l0.length = Li.length := by rw [a0.length, List.length_map]
    refine ⟨_, rfl, .inr (.inl ⟨ga, _, 0, .ref ma, rfl, rfl, SqT.of (g1 _ _ hga), atI_nat (j := 0) rfl, _, rfl, _, rfl, ma, _, rfl, SqL.of (g1 _ _ hma), fun e he => ?_⟩)⟩
    rw [cut_last]
    have x2 := x1.lay (o := .lst l0) he
    have hel : upd H1 e (.lst l0) e = some (.lst l0) := upd_same
    generalize upd H1 e (.lst l0) = H2 at x2 hel
    refine ⟨e, rfl, ⟨_, SqL.of hel⟩, fun D hD => ?_⟩
    have x3 := x2.lay (o := .lst []) hD
    have w3 := Own.fresh (o := .lst []) x2 hD
    have hel3 := same_upd (o := .lst []) hD _ _ hel
    have neD : e ≠ D := ne_of_none hel hD
    generalize upd H2 D (.lst []) = H3 at x3 w3 hel3
    refine comp_list (xs := l0) (fun i τ H' => ∃ (v : Option V) (xs : List V), τ = [v, some (.str (sd t))] ∧ Ext G H G H' ∧ H' e = some (.lst l0) ∧ Own H G H' D (.lst xs) ∧ AtAll G xs (((Li.take i).filter (othS t)).map posD)) ⟨none, [], rfl, x3, hel3, w3, .nil⟩ ?_ ?_ ?_
    · rintro i τ H' hi ⟨v, xs, rfl, x, he', _⟩
      exact SqL.of he'
    · rintro i x τ H' hx ⟨v, xs, rfl, x4, he4, w4, ax⟩
      obtain ⟨d, hd, ad⟩ := a0.get' hx
      rw [List.getElem?_map] at hd
      cases hq : Li[i]? with
      | none => rw [hq] at hd; cases hd
      | some pl =>
        rw [hq] at hd
        have hd : posD pl = d := Option.some.inj hd
        subst hd
        have hi : i < Li.length := (List.getElem?_eq_some_iff.mp hq).1
        obtain ⟨c, rfl, hc⟩ := ad.pos
        have hc' := x4.gh _ _ hc
        have hlt : xs.length ≤ 200 := by
          rw [ax.length, List.length_map]
          refine Nat.le_trans (List.length_filter_le _ _) ?_
          rw [List.length_take]
          omega
        refine ⟨_, rfl, .inr (.inl ⟨c, _, 2, .str (sd pl.t), rfl, rfl, SqT.of hc', atI_nat (j := 2) rfl, _, rfl, rfl, _, rfl, ?_⟩)⟩
        rw [sd_eq]
        have ft := filter_take (f := othS t) hq
        cases ev : othS t pl with
        | false =>
          rw [ev, if_neg (by simp), List.append_nil] at ft
          rw [show (!decide (pl.t = t)) = false from ev]
          refine iteF ⟨_, xs, rfl, x4, he4, w4, ?_⟩
          rw [ft]
          exact ax
        | true =>
          rw [ev, if_pos rfl] at ft
          rw [show (!decide (pl.t = t)) = true from ev]
          refine iteT ⟨_, rfl, xs, w4.is, small1000 (by omega), _, _, rfl, w4.write x4, ?_, w4.set, ?_⟩
          · rw [upd_ne neD]
            exact he4
          rw [ft, List.map_append]
          exact ax.append (.one ad)
    rintro τ H4 ⟨v, sxs, rfl, x4, _, w4, asx⟩
    rw [el0, List.take_length] at asx
    rw [eLi, List.dropLast_concat] at e3
    rw [e3] at asx
    obtain ⟨s0, sv, rfl, _, asv⟩ := at_snoc asx
    obtain ⟨sq, rfl, hsq⟩ := asv.pos
    generalize hZ : endOf p W1 = z at *
    obtain ⟨pb, la, ca, ls, rfl, hpb, _⟩ := hb.board
    -- _law_ways
    refine ⟨_, rfl, _, rfl, _, rfl, .inl ⟨D, _, -1, .ref sq, rfl, rfl, SqL.of w4.is, atI_last _ _, .ref sq, z, rfl, pos_at (x4.gh _ _ hsq), G, .ref pb, B, yardOf z, rfl, x4.gh, hb, g.len, fun G5 H5 r5 x5 ar5 => ?_⟩⟩
    cases ar5 with
    | lst hwa awx =>
    rename_i wa wxs
    have ewx := awx.ints_of
    subst ewx
    have x45 := x4.trans x5
    have hn7 := g.few
    -- what is no lane
    refine ⟨_, rfl, _, rfl, .inr (.inl ⟨pb, _, 0, .int B.n, rfl, rfl, SqT.of (x5.gh _ _ (x5.gg _ _ hpb)), atI_nat (j := 0) rfl, _, _, rfl, rfl, -2, (B.n : Int) + 2, rfl, ⟨by decide, by decide, by omega, by omega⟩, fun D2 hD2 => ?_⟩)⟩
    have x6 := x45.lay (o := .lst []) hD2
    have w6 := Own.fresh (o := .lst []) x45 hD2
    generalize upd H5 D2 (.lst []) = H6 at x6 w6
    rw [show ((B.n : Int) + 2 - -2).toNat = B.n + 4 by omega]
    refine comp_range (lo := -2) (n := B.n + 4) (fun i τ H' => ∃ (v : Option V) (ys : List Int), τ = [v, some (.ref wa)] ∧ Ext G H G5 H' ∧ Own H G5 H' D2 (.lst (ys.map V.int)) ∧ ys.length ≤ i ∧ ∀ y ∈ ys, y ∉ waysB B z) ⟨none, [], rfl, x6, w6, Nat.le_refl _, fun y hy => nomatch hy⟩ ?_ ?_
    · rintro i τ H' hi ⟨v, ys, rfl, x7, w7, hlen, hys⟩
      show _
      generalize (-2 : Int) + (i : Int) = y
      refine ⟨_, rfl, _, rfl, .int y, (waysL B.lanes (yardOf z)).map .int, .int y, .inl (.lst (x7.gh _ _ hwa) (AtAll.ints _)), by show 0 ≤ 60; decide, _, rfl, ?_⟩
      rw [if_pos rfl, any_int]
      by_cases hy : y ∈ waysL B.lanes (yardOf z)
      · rw [decide_eq_true hy]
        exact iteF ⟨_, ys, rfl, x7, w7, by omega, hys⟩
      · rw [decide_eq_false hy]
        refine iteT ⟨_, rfl, _, w7.is, ?_, _, ys ++ [y], rfl, w7.write x7, ?_, ?_, fun y' hy' => ?_⟩
        · rw [List.length_map]
          exact small1000 (by omega)
        · rw [List.map_append]
          exact w7.set
        · rw [List.length_append]
          show ys.length + 1 ≤ i + 1
          omega
        · rcases List.mem_append.mp hy' with y2 | y2
          · exact hys _ y2
          · rw [List.mem_singleton.mp y2]
            exact hy
    · rintro τ H' ⟨v, ys, rfl, x7, w7, hlen, hys⟩
      exact q _ _ _ ys (w7.join x7) upd_same fun y hy => ⟨W1, rs1, y0, e1, e2, wk1, by rw [hZ]; exact hw1, by rw [hZ]; exact ht1, by rw [hZ]; exact hys y hy⟩

end
end K05

set_option Elab.async false
set_option linter.all false
set_option maxRecDepth 100000
set_option maxHeartbeats 4000000
namespace K05
open PySem L2 Fx
section
variable {P : Program} {w : World} {K : PySem.W.Frag} {mg : Str → Option Value} {base : Heap}
/-! ### the law -/
theorem scLaw : FnScope ["_law_script", "_law_board", "_law_given", "_law_found", "_law_table", "_law_won", "_law_long", "_law_pick", "_law_start", "_law_who", "_law_count", "_law_yard", "_law_game", "_law_handed", "_law_due"] ["_law_script"] (defScope sLaw) := ⟨rfl, rfl, rfl, by decide +kernel, rfl, by decide +kernel, by decide +kernel⟩
theorem ok_law {f : Addr} {fd : FuncData} (F : Fun K "law" "law" sLaw f fd) (T : Txt mg) (L_NoLane : Kls K mg "NoLane") (C__law_at : Cal P w K mg base 1 "_law_at" ["_law_script", "_law_k"] spAt)
    (C__law_board_by : Cal P w K mg base 2 "_law_board_by" ["_law_script"] (spBoard menuB)) (C_solved : Cal P w K mg base 7 "solved" ["board"] spSolved) (C_played : CalX P w K mg base 7 "played" ["board", "position", "side", "replies"] (spPlayed L_NoLane.C)) (C__law_barred : Cal P w K mg base 8 "_law_barred" ["_law_board", "_law_start", "_law_side", "_law_replies"] spBarred) (C__law_strangers : Cal P w K mg base 2 "_law_strangers" ["_law_board", "_law_game", "_law_who"] spStrangers) (C__law_as_it_was : Cal P w K mg base 1 "_law_as_it_was" ["_law_handed", "_law_own"] spAsWas) (C__law_stays_so : Cal P w K mg base 1 "_law_stays_so" ["_law_handed", "_law_own"] spStays)
    (C__law_game_by : Cal P w K mg base 3 "_law_game_by" ["_law_board", "_law_table", "_law_start", "_law_side", "_law_cells", "_law_most"] spGameBy) (C__law_same_places : Cal P w K mg base 3 "_law_same_places" ["_law_found", "_law_due"] spSame)
    (C__law_table_of : Cal P w K mg base 4 "_law_table_of" ["_law_found", "_law_count"] spTableOf) (C__law_winner_at : Cal P w K mg base 2 "_law_winner_at" ["_law_board", "_law_position"] spWinnerAt) :
    FnOk P w K mg base CX0 9 f fd ["_law_script"] (spLaw K) := by
  refine F.ok scLaw (fun vs H Q E h => ?_) (fun cdv A outer s H vs Q E hr h => ?_)
  · obtain ⟨a, ns, rfl, _⟩ := h
    rfl
  · obtain ⟨a, ns, rfl, hS, hlen, q⟩ := h
    have hr_ : ∀ {j : Nat}, j ≤ 8 → Room j _ := fun h => hr.mono h
    refine ⟨_, (pss_cons (ps_set (i := 0) scLaw.nd rfl (Or.inr rfl) (pe_slice (sl_K (K := K) rfl) (pv 0) po_none (po_some pe_int)))
      (pss_cons (ps_set (i := 1) scLaw.nd rfl (Or.inl rfl) (pe_call C__law_board_by.ok (hr_ (by decide)) rfl C__law_board_by.mg C__law_board_by.kp C__law_board_by.b .nil pass0 (pa_cons (pv 0) pa_nil)))
      (pss_cons (ps_set (i := 2) scLaw.nd rfl (Or.inl rfl) (pe_call C__law_board_by.ok (hr_ (by decide)) rfl C__law_board_by.mg C__law_board_by.kp C__law_board_by.b .nil pass0 (pa_cons (pv 0) pa_nil)))
      (pss_cons (ps_set (i := 3) scLaw.nd rfl (Or.inl rfl) (pe_call C_solved.ok (hr_ (by decide)) rfl C_solved.mg C_solved.kp C_solved.b .nil pass0 (pa_cons (pv 2) pa_nil)))
      (pss_cons (ps_set (i := 4) scLaw.nd rfl (Or.inl rfl) (pe_call C__law_table_of.ok (hr_ (by decide)) rfl C__law_table_of.mg C__law_table_of.kp C__law_table_of.b .nil pass0 (pa_cons (pv 3) (pa_cons (pe_ix (ix_K (K := K) rfl) (pv 1) pe_int (fun _ _ => rfl)) pa_nil))))
      (pss_cons (ps_if (pt_cmp (pc_isN (pv 4)))
       (pss_one (ps_ret pe_bl))
       pss_nil)
      (pss_cons (ps_setComp (i := 5) ["_law_entry"] [none] rfl (cs_mk (N₀ := ["_law_script", "_law_board", "_law_given", "_law_found", "_law_table", "_law_won", "_law_long", "_law_pick", "_law_start", "_law_who", "_law_count", "_law_yard", "_law_game", "_law_handed", "_law_due"]) (sc := defScope sLaw) (by decide +kernel)) (pi_K (K := K) rfl (pv 3)) (fun _ _ _ _ _ => (pg_name (i := 0) (show (["_law_entry"] : List Str).Nodup from by decide +kernel) rfl (Or.inl rfl))) (fun _ _ _ _ _ => (pts_one (pt_cmp (pc_notN (pe_ix (ix_K (K := K) rfl) (pv 0) pe_int (fun _ _ => rfl)))))) (fun _ _ _ _ _ => (pv 0)) scLaw.nd rfl (Or.inl rfl) rfl)
      (pss_cons (ps_setComp (i := 6) ["_law_entry", "_law_script"] [none, some 0] rfl (cs_mk (N₀ := ["_law_script", "_law_board", "_law_given", "_law_found", "_law_table", "_law_won", "_law_long", "_law_pick", "_law_start", "_law_who", "_law_count", "_law_yard", "_law_game", "_law_handed", "_law_due"]) (sc := defScope sLaw) (by decide +kernel)) (pi_K (K := K) rfl (pv 5)) (fun _ _ _ _ _ => (pg_name (i := 0) (show (["_law_entry", "_law_script"] : List Str).Nodup from by decide +kernel) rfl (Or.inl rfl))) (fun _ _ _ _ _ => (pts_one (pt_cmpR op_gt (pe_ix (ix_K (K := K) rfl) (pv 0) pe_int (fun _ _ => rfl)) (pe_op op_mod (pe_op op_fdiv (pe_call C__law_at.ok (hr_ (by decide)) rfl C__law_at.mg C__law_at.kp C__law_at.b .nil pass0 (pa_cons (pv 1) (pa_cons pe_int pa_nil))) pe_int) pe_int) (nomark _)))) (fun _ _ _ _ _ => (pv 0)) scLaw.nd rfl (Or.inl rfl) rfl)
      (pss_cons (ps_if (pt_cmpR (op_neD hr) (pv 6) (pe_lst pa_nil) (nomark _))
       (pss_one (ps_set (i := 5) scLaw.nd rfl (Or.inl rfl) (pv 6)))
       pss_nil)
      (pss_cons (ps_if (pt_cmpR (op_eqD hr) (pv 5) (pe_lst pa_nil) (nomark _))
       (pss_one (ps_ret pe_bl))
       pss_nil)
      (pss_cons (ps_set (i := 7) scLaw.nd rfl (Or.inl rfl) (pe_op op_add (pe_op op_fdiv (pe_call C__law_at.ok (hr_ (by decide)) rfl C__law_at.mg C__law_at.kp C__law_at.b .nil pass0 (pa_cons (pv 0) (pa_cons pe_int pa_nil))) pe_int) (pe_op op_mul pe_int (pe_callB (len_K (K := K) rfl) rfl T.n_len b_len (pa_cons (pv 0) pa_nil)))))
      (pss_cons (ps_asg (pe_ix (ix_K (K := K) rfl) (pv 5) (pe_op op_mod (pv 7) (pe_callB (len_K (K := K) rfl) rfl T.n_len b_len (pa_cons (pv 5) pa_nil))) (fun _ _ => rfl)) (pgTup_K (K := K) 4 rfl rfl (pgs_cons (pg_name (i := 8) scLaw.nd rfl (Or.inl rfl)) (pgs_cons (pg_name (i := 9) scLaw.nd rfl (Or.inl rfl)) (pgs_cons (pg_name (i := 10) scLaw.nd rfl (Or.inl rfl)) (pgs_cons (pg_name (i := 11) scLaw.nd rfl (Or.inl rfl)) pgs_nil))))))
      (pss_cons (ps_set (i := 12) scLaw.nd rfl (Or.inl rfl) (pe_call C__law_game_by.ok (hr_ (by decide)) rfl C__law_game_by.mg C__law_game_by.kp C__law_game_by.b .nil pass0 (pa_cons (pv 1) (pa_cons (pv 4) (pa_cons (pv 8) (pa_cons (pv 9) (pa_cons (pe_op op_cat (pe_lst (pa_cons pe_int pa_nil)) (pv 0)) (pa_cons (pv 10) pa_nil))))))))
      (pss_cons (ps_if (PW.pt (pw_or (pt_cmp (pc_isN (pv 12))) (pw_or1 (pt_cmpR op_ne (pe_call C__law_winner_at.ok (hr_ (by decide)) rfl C__law_winner_at.mg C__law_winner_at.kp C__law_winner_at.b .nil pass0 (pa_cons (pv 1) (pa_cons (pe_ix (ix_K (K := K) rfl) (pe_ix (ix_K (K := K) rfl) (pv 12) pe_int (fun _ _ => rfl)) (pe_un un_neg pe_int) (fun _ _ => rfl)) pa_nil))) (pv 9) (nomark _)))))
       (pss_one (ps_ret pe_bl))
       pss_nil)
      (pss_cons (ps_set (i := 13) scLaw.nd rfl (Or.inl rfl) (pe_op op_cat (pe_ix (ix_K (K := K) rfl) (pv 12) pe_int (fun _ _ => rfl)) (pe_lst (pa_cons (pe_ix (ix_K (K := K) rfl) (pv 1) pe_int (fun _ _ => rfl)) (pa_cons (pe_un un_neg pe_int) pa_nil)))))
      (pss_cons (ps_set (i := 14) scLaw.nd rfl (Or.inl rfl) (pe_call C_played.ok (hr_ (by decide)) rfl C_played.mg C_played.kp C_played.b .nil passN (pa_cons (pv 2) (pa_cons (pv 8) (pa_cons (pv 9) (pa_cons (pv 13) pa_nil))))))
      (pss_cons (ps_if (pt_not (pt_val (pe_call C__law_same_places.ok (hr_ (by decide)) rfl C__law_same_places.mg C__law_same_places.kp C__law_same_places.b .nil pass0 (pa_cons (pv 14) (pa_cons (pe_ix (ix_K (K := K) rfl) (pv 12) pe_int (fun _ _ => rfl)) pa_nil)))))
       (pss_one (ps_ret pe_bl))
       pss_nil)
      (pss_cons (ps_if (PW.pt (pw_or (pt_not (pt_val (pe_call C__law_as_it_was.ok (hr_ (by decide)) rfl C__law_as_it_was.mg C__law_as_it_was.kp C__law_as_it_was.b .nil pass0 (pa_cons (pv 2) (pa_cons (pv 1) pa_nil))))) (pw_or1 (pt_not (pt_val (pe_call C__law_stays_so.ok (hr_ (by decide)) rfl C__law_stays_so.mg C__law_stays_so.kp C__law_stays_so.b .nil pass0 (pa_cons (pv 13) (pa_cons (pe_op op_cat (pe_ix (ix_K (K := K) rfl) (pv 12) pe_int (fun _ _ => rfl)) (pe_lst (pa_cons (pe_ix (ix_K (K := K) rfl) (pv 1) pe_int (fun _ _ => rfl)) (pa_cons (pe_un un_neg pe_int) pa_nil)))) pa_nil))))))))
       (pss_one (ps_ret pe_bl))
       pss_nil)
      (pss_cons (ps_for PassesOwn.never rfl (pi_K (K := K) rfl (pe_call C__law_strangers.ok (hr_ (by decide)) rfl C__law_strangers.mg C__law_strangers.kp C__law_strangers.b .nil pass0 (pa_cons (pv 1) (pa_cons (pv 12) (pa_cons (pv 9) pa_nil))))) (pg_name (i := 11) scLaw.nd rfl (Or.inl rfl))
       (pss_one (ps_if (pt_not (pt_val (pe_call C__law_barred.ok (hr_ (by decide)) rfl C__law_barred.mg C__law_barred.kp C__law_barred.b .nil pass0 (pa_cons (pv 1) (pa_cons (pv 8) (pa_cons (pv 9) (pa_cons (pe_op op_cat (pe_slice (sl_K (K := K) rfl) (pe_ix (ix_K (K := K) rfl) (pv 12) pe_int (fun _ _ => rfl)) po_none (po_some (pe_un un_neg pe_int))) (pe_lst (pa_cons (pv 11) pa_nil))) pa_nil)))))))
         (pss_one (ps_ret pe_bl))
         pss_nil)))
      (pss_one (ps_ret pe_bl))))))))))))))))))))), ?_⟩
    -- _law_script[:500]
    refine ⟨_, rfl, _, rfl, a, _, rfl, hS, fun a2 ha2 => ?_⟩
    rw [cut500 hlen]
    have hG : Same (upd (fun _ => none) a2 (.lst (ns.map V.int))) (upd H a2 (.lst (ns.map V.int))) := (show Same (fun _ => none) H from fun _ _ z => nomatch z).upd2
    have hGa : upd (fun _ => none) a2 (.lst (ns.map V.int)) a2 = some (.lst (ns.map V.int)) := upd_same
    generalize upd (fun _ => none) a2 (.lst (ns.map V.int)) = G at hG hGa
    generalize upd H a2 (.lst (ns.map V.int)) = H1 at hG
    have gB := boardOf_good (menu := menuB) (.inr rfl) hlen
    -- the boards, _law_found
    refine ⟨_, rfl, G, a2, ns, rfl, hG, hGa, hlen, fun G2 H2 r x2 ab => ?_⟩
    generalize hB : boardOf menuB ns = B at *
    obtain ⟨p, la, ca, ls, rfl, hp, hla, als, hca⟩ := ab.board
    refine ⟨_, rfl, G2, a2, ns, rfl, x2.gh, x2.gg _ _ hGa, hlen, fun G3 H3 r3 x3 ab3 => ?_⟩
    rw [hB] at ab3
    refine ⟨_, rfl, G3, r3, B, rfl, x3.gh, ab3, gB, fun G4 H4 r4 x4 ar4 => ?_⟩
    have s24 : Same G2 G4 := x3.gg.trans x4.gg
    have hp4 := s24 _ _ hp
    have ha4 := s24 _ _ (x2.gg _ _ hGa)
    -- _law_table
    refine ⟨_, rfl, _, rfl, .inr (.inl ⟨p, _, 0, .int B.n, rfl, rfl, SqT.of (x4.gh _ _ hp4), atI_nat (j := 0) rfl, G4, r4, B.n, entD B, rfl, x4.gh, gB.pos, gB.few, fun pl => ⟨_, _, rfl⟩, ar4, fun G5 H5 ka kvs x5 k5 t5 => ?_⟩)⟩
    refine ⟨_, rfl, _, rfl, iteF ?_⟩
    have s25 := s24.trans x5.gg
    have ar5 := ar4.mono x5.gg
    cases ar5 with
    | lst hfa al =>
    rename_i fa fxs
    have ha5 := x5.gg _ _ ha4
    have hp5 := x5.gg _ _ hp4
    have ab5 : At G5 (.ref p) (boardD B) := ab.mono s25
    have fl : fxs.length = (allPos B.n).length := by rw [al.length, List.length_map]
    have f98 := few98 gB
    -- _law_won
    refine ⟨_, rfl, fa, rfl, ⟨_, SqL.of (x5.gh _ _ hfa)⟩, fun D hD => ?_⟩
    have x6 := (Ext.refl x5.gh).lay (o := .lst []) hD
    have w6 := Own.fresh (o := .lst []) (Ext.refl x5.gh) hD
    refine comp_list (xs := fxs) (fun i τ H' => ∃ (v : Option V) (xs : List V), τ = [v] ∧ Ext G5 H5 G5 H' ∧ Own H5 G5 H' D (.lst xs) ∧ AtAll G5 xs ((((allPos B.n).take i).filter (fun p => (verd B p).isSome)).map (entD B))) ⟨none, [], rfl, x6, w6, .nil⟩ ?_ ?_ ?_
    · rintro i τ H' hi ⟨v, xs, rfl, x, _⟩
      exact SqL.of (x.gh _ _ hfa)
    · rintro i x τ H' hx ⟨v, xs, rfl, x7, w7, ax⟩
      obtain ⟨d, hd, ad⟩ := al.get' hx
      rw [List.getElem?_map] at hd
      cases hq : (allPos B.n)[i]? with
      | none => rw [hq] at hd; cases hd
      | some pl =>
        rw [hq] at hd
        have hd : entD B pl = d := Option.some.inj hd
        subst hd
        obtain ⟨c, c2, rfl, hc, hc2⟩ := At.ent ad
        have hc' := x7.gh _ _ hc
        have hlt : xs.length ≤ 98 := by
          rw [ax.length, List.length_map]
          refine Nat.le_trans (List.length_filter_le _ _) ?_
          rw [List.length_take]
          omega
        refine ⟨_, rfl, .inr (.inl ⟨c, _, 2, cntV (verd B pl), rfl, rfl, SqT.of hc', atI_nat (j := 2) rfl, _, rfl, ?_⟩)⟩
        rw [cnt_non]
        have ft := filter_take (f := fun p => (verd B p).isSome) hq
        cases ev : verd B pl with
        | none =>
          rw [ev, if_neg (by simp), List.append_nil] at ft
          refine iteF ⟨_, xs, rfl, x7, w7, ?_⟩
          rw [ft]
          exact ax
        | some w' =>
          rw [ev, if_pos (by rfl)] at ft
          refine iteT ⟨_, rfl, xs, w7.is, small1000 (by omega), _, _, rfl, w7.write x7, w7.set, ?_⟩
          rw [ft, List.map_append]
          exact ax.append (.one ad)
    rintro τ H6 ⟨v, wxs, rfl, x6, w6, awx⟩
    rw [fl, List.take_length] at awx
    have hwm : ∀ z ∈ (allPos B.n).filter (fun p => (verd B p).isSome), z ∈ allPos B.n ∧ (verd B z).isSome = true := fun z hz => List.mem_filter.mp hz
    have hwl : ((allPos B.n).filter (fun p => (verd B p).isSome)).length ≤ 98 := Nat.le_trans (List.length_filter_le _ _) f98
    have hwn : (allPos B.n).filter (fun p => (verd B p).isSome) ≠ [] := by
      have h0 : (⟨0, 0, true⟩ : Plc) ∈ allPos B.n := mem_allPos.mpr ⟨by decide, by show (0 : Int) < (B.n : Int); have := gB.pos; omega, by decide, by show (0 : Int) < (B.n : Int); have := gB.pos; omega⟩
      have h1 : winAt B ⟨0, 0, true⟩ = some true := rfl
      exact List.ne_nil_of_mem (List.mem_filter.mpr ⟨h0, by rw [verd_win h1]; rfl⟩)
    generalize (allPos B.n).filter (fun p => (verd B p).isSome) = wps at awx hwm hwn hwl
    have ewl : wxs.length = wps.length := by rw [awx.length, List.length_map]
    -- _law_long
    refine ⟨_, rfl, D, rfl, ⟨_, SqL.of w6.is⟩, fun E2 hE2 => ?_⟩
    have x7 := x6.lay (o := .lst []) hE2
    have w7 := w6.lay (u := .lst []) hE2
    have e7 := Own.fresh (o := .lst []) x6 hE2
    have nDE : D ≠ E2 := ne_of_none w6.is hE2
    refine comp_list (xs := wxs) (fun i τ H' => ∃ (v : Option V) (xs : List V) (ps : List Plc), τ = [v, some (.ref a2)] ∧ Ext G5 H5 G5 H' ∧ Own H5 G5 H' D (.lst wxs) ∧ Own H5 G5 H' E2 (.lst xs) ∧ AtAll G5 xs (ps.map (entD B)) ∧ ps.length ≤ i ∧ ∀ z ∈ ps, z ∈ wps) ⟨none, [], [], rfl, x7, w7, e7, .nil, Nat.le_refl _, fun z hz => nomatch hz⟩ ?_ ?_ ?_
    · rintro i τ H' hi ⟨v, xs, ps, rfl, x, w, _⟩
      exact SqL.of w.is
    · rintro i x τ H' hx ⟨v, xs, ps, rfl, x8, w8, e8, ax, hpl, hps⟩
      obtain ⟨d, hd, ad⟩ := awx.get' hx
      rw [List.getElem?_map] at hd
      cases hq : wps[i]? with
      | none => rw [hq] at hd; cases hd
      | some pl =>
        rw [hq] at hd
        have hd : entD B pl = d := Option.some.inj hd
        subst hd
        have hpm := List.mem_of_getElem? hq
        have hi98 : i < wps.length := (List.getElem?_eq_some_iff.mp hq).1
        obtain ⟨w', ev⟩ := isSome_some (hwm pl hpm).2
        obtain ⟨c, c2, rfl, hc, hc2⟩ := At.ent ad
        have hc' := x8.gh _ _ hc
        rw [ev] at hc'
        refine ⟨_, rfl, .inr (.inl ⟨c, _, 2, .int (w'.2 : Int), rfl, rfl, SqT.of hc', atI_nat (j := 2) rfl, _, rfl, a2, ns, 0, rfl, x8.gh _ _ ha5, _, _, rfl, rfl, ⟨by decide, by decide⟩, _, _, rfl, rfl, (by show (0 : Int) < 7; decide), _, _, rfl, rfl, _, rfl, ?_⟩)⟩
        refine ite2 (fun _ => ?_) (fun _ => ⟨_, xs, ps, rfl, x8, w8, e8, ax, by omega, hps⟩)
        have e := ax.length
        rw [List.length_map] at e
        refine ⟨_, rfl, xs, e8.is, small1000 (by omega), _, _, ps ++ [pl], rfl, e8.write x8, w8.other nDE, e8.set, ?_, ?_, fun z hz => ?_⟩
        · rw [List.map_append]
          exact ax.append (.one ad)
        · rw [List.length_append]
          show ps.length + 1 ≤ i + 1
          omega
        · rcases List.mem_append.mp hz with y | y
          · exact hps z y
          · rw [List.mem_singleton.mp y]; exact hpm
    rintro τ H7 ⟨v, lxs, lps, rfl, x7, w7, e7, alx, _, hlps⟩
    dsimp only [gName]
    refine seq_two (fun σ' H' => ∃ (wa : Addr) (xs : List V) (ps : List Plc), σ' = [some (.ref a2), some (.ref p), some r3, some (.ref fa), some (.ref ka), some (.ref wa), some (.ref E2), none, none, none, none, none, none, none, none] ∧ Same H7 H' ∧ H' wa = some (.lst xs) ∧ AtAll G5 xs (ps.map (entD B)) ∧ ps ≠ [] ∧ ∀ z ∈ ps, z ∈ wps) ?_ (fun tail => ?_)
    rotate_left
    · refine ⟨_, rfl, by decide, fun q1 hq1 => ?_⟩
      have s8 := same_upd (o := .lst []) hq1
      refine ⟨.list (lps.map (entD B)), .list [], .lst (s8 _ _ e7.is) (alx.mono (x7.gh.trans s8)), .lst upd_same .nil, Nat.le_trans (Nat.min_le_right _ _) (by rw [nil_depth]; decide), _, rfl, ?_⟩
      rw [eqv_nil]
      by_cases hl : lps = []
      · rw [hl]
        exact iteF (tail _ _ ⟨D, wxs, wps, rfl, s8, s8 _ _ w7.is, awx, hwn, fun z hz => hz⟩)
      · rw [decide_eq_false (fun z => hl (List.map_eq_nil_iff.mp z))]
        exact iteT ⟨_, rfl, tail _ _ ⟨E2, lxs, lps, rfl, s8, s8 _ _ e7.is, alx, hl, hlps⟩⟩
    rintro σ' H8 ⟨wa, xs, ps, rfl, s8, hwa, ax, hne, hps⟩
    have g8 : Same G5 H8 := x7.gh.trans s8
    have x8 : Ext G5 H5 G5 H8 := ⟨x7.gg, g8, x7.hh.trans s8, x7.new⟩
    -- _law_won == []
    refine ⟨_, rfl, by decide, fun q1 hq1 => ?_⟩
    have s9 := same_upd (o := .lst []) hq1
    refine ⟨.list (ps.map (entD B)), .list [], .lst (s9 _ _ hwa) (ax.mono (g8.trans s9)), .lst upd_same .nil, Nat.le_trans (Nat.min_le_right _ _) (by rw [nil_depth]; decide), _, rfl, ?_⟩
    rw [eqv_nil, decide_eq_false (fun z => hne (List.map_eq_nil_iff.mp z))]
    refine iteF ?_
    have g9 : Same G5 (upd H8 q1 (.lst [])) := g8.trans s9
    have x9 : Ext G5 H5 G5 (upd H8 q1 (.lst [])) := x8.trans (Ext.grow g8 s9)
    have hwa9 := s9 _ _ hwa
    generalize upd H8 q1 (.lst []) = H9 at g9 x9 hwa9
    -- _law_pick, the entry
    have hpos : 0 < xs.length := by
      rw [ax.length, List.length_map]
      exact List.length_pos_iff.mpr hne
    refine ⟨_, rfl, a2, ns, 1, rfl, g9 _ _ ha5, _, _, rfl, rfl, ⟨by decide, by decide⟩, _, rfl, a2, _, rfl, .inl (SqL.of (g9 _ _ ha5)), _, _, rfl, rfl, .inl ⟨by decide, by decide⟩, _, _, rfl, rfl, ?_⟩
    dsimp only [gName]
    generalize atD ns 1 / 15 + 7 * (((ns.map V.int).length : Nat) : Int) = pick
    obtain ⟨j, hj, ej⟩ := mod_nat (z := pick) hpos
    obtain ⟨ev, pl, hxj, hpj, ae⟩ := pick_at ax (k := j) (by rw [ax.length, List.length_map] at hj; exact hj)
    have hpm := hwm pl (hps pl (List.mem_of_getElem? hpj))
    obtain ⟨⟨t, n⟩, evv⟩ := isSome_some hpm.2
    obtain ⟨c, c2, rfl, hc, hc2⟩ := At.ent ae
    rw [evv] at hc
    refine ⟨_, rfl, _, rfl, _, rfl, wa, _, rfl, .inl (SqL.of hwa9), _, _, rfl, rfl, by omega, .inl ⟨wa, _, _, .ref c, rfl, rfl, SqL.of hwa9, (by rw [ej]; exact atI_nat hxj), ?_⟩⟩
    refine ⟨c, _, rfl, SqT.of (g9 _ _ hc), rfl, _, _, rfl, _, _, rfl, _, _, rfl, _, _, rfl, rfl, ?_⟩
    dsimp only [gName]
    have hn98 : n ≤ 98 := verd_98 gB evv
    -- _law_game
    have xA := x9
    refine ⟨_, rfl, _, rfl, _, rfl, _, rfl, by decide, fun o1 ho1 => ?_⟩
    have xB := xA.lay (o := .lst [.int 1]) ho1
    have lB : upd H9 o1 (.lst [.int 1]) o1 = some (.lst [.int 1]) := upd_same
    generalize upd H9 o1 (.lst [.int 1]) = HB at xB lB
    refine ⟨_, rfl, o1, a2, _, _, rfl, rfl, lB, xB.gh _ _ ha5, few (by rw [List.length_map]; show 1 + ns.length ≤ 1000; omega), fun cc hcc => ?_⟩
    have xC := xB.put (o := .lst ([.int 1] ++ ns.map V.int)) hcc
    have lC : upd G5 cc (.lst ([.int 1] ++ ns.map V.int)) cc = some (.lst ((1 :: ns).map V.int)) := upd_same
    have sC : Same G5 (upd G5 cc (.lst ([.int 1] ++ ns.map V.int))) := same_upd (xB.gh.free hcc)
    generalize upd HB cc (.lst ([.int 1] ++ ns.map V.int)) = HC at xC
    generalize upd G5 cc (.lst ([.int 1] ++ ns.map V.int)) = GC at xC lC sC
    refine ⟨_, rfl, ?_⟩
    have kC := k5.ext xC
    refine ⟨GC, .ref p, B, ka, kvs, .ref c2, pl, t, cc, 1 :: ns, n, rfl, xC.gh, ab5.mono sC, gB, .inl kC.is, t5.mono sC, pos_at (sC _ _ hc2), hpm.1, lC, List.cons_ne_nil _ _, by omega, fun GD HD ga ma ra W rs xD hga hma hra wk hWl hWe => ?_⟩
    refine ⟨_, rfl, _, rfl, iteF ?_⟩
    have hmaD := hma
    cases hma with
    | lst hma am =>
    rename_i mxs
    obtain ⟨Li, eLi⟩ := last_of pl W
    rw [eLi] at am
    obtain ⟨l0, lv, el0, a0, a1⟩ := at_snoc am
    obtain ⟨zq, rfl, hzq⟩ := a1.pos
    have sD : Same G5 GD := sC.trans xD.gg
    have hgaH := xD.gh _ _ hga
    have hmaH := xD.gh _ _ hma
    -- it is won
    have hwin : winAt B (endOf pl W) = some t := by
      obtain ⟨m, em, hm⟩ := walk_win gB wk hpm.1 evv
      have ei := (wk.inn gB hpm.1).1
      cases ew : winAt B (endOf pl W) with
      | some s => rw [verd_win ew] at em; injection em with em; injection em with em _; rw [em]
      | none =>
        have h1 := verd_pos ew em
        rcases hWe with z | z
        · exact absurd ew z
        · omega
    have hrl : rs.length ≤ 98 := by have := wk.rs_len; omega
    refine ⟨_, rfl, _, rfl, .inr (.inl ⟨ga, _, 0, .ref ma, rfl, rfl, SqT.of hgaH, atI_nat (j := 0) rfl, _, rfl, .inl ⟨ma, _, -1, .ref zq, rfl, rfl, SqL.of hmaH, (by rw [el0]; exact atI_last _ _), ?_⟩⟩)⟩
    refine ⟨GD, .ref p, .ref zq, B, endOf pl W, rfl, xD.gh, ab5.mono sD, pos_at hzq, gB.len, fun HE sE => ?_⟩
    have xE : Ext GC HC GD HE := xD.trans (Ext.grow xD.gh sE)
    rw [hwin]
    refine ⟨_, rfl, rfl, _, rfl, ?_⟩
    rw [show decide (wV (some t) = V.str (whoS (some (t, n)))) = true from decide_eq_true rfl]
    refine iteF ?_
    dsimp only [tNext]
    have gE : Same GD HE := xD.gh.trans sE
    have hp5' := sD _ _ hp5
    have few2 : (rs.map V.int).length + [V.int B.n, V.int (-1)].length ≤ sizeLine := few (by rw [List.length_map]; show rs.length + 2 ≤ 1000; omega)
    -- _law_handed
    refine ⟨_, rfl, .inr (.inl ⟨ga, _, 1, .ref ra, rfl, rfl, SqT.of (gE _ _ hga), atI_nat (j := 1) rfl, _, rfl, .inr (.inl ⟨p, _, 0, .int B.n, rfl, rfl, SqT.of (gE _ _ hp5'), atI_nat (j := 0) rfl, _, rfl, few (by show 2 ≤ 1000; decide), fun l1 hl1 => ?_⟩)⟩)⟩
    have s1 := same_upd (o := .lst [.int B.n, .int (-1)]) hl1
    have hl1' : upd HE l1 (.lst [.int B.n, .int (-1)]) l1 = some (.lst [.int B.n, .int (-1)]) := upd_same
    generalize upd HE l1 (.lst [.int B.n, .int (-1)]) = HF at s1 hl1'
    have gF : Same GD HF := gE.trans s1
    refine ⟨ra, l1, _, _, rfl, rfl, gF _ _ hra, hl1', few2, fun hd hhd => ?_⟩
    have gG : Same (upd GD hd (.lst (rs.map V.int ++ [.int B.n, .int (-1)]))) (upd HF hd (.lst (rs.map V.int ++ [.int B.n, .int (-1)]))) := gF.upd2
    have sG : Same GD (upd GD hd (.lst (rs.map V.int ++ [.int B.n, .int (-1)]))) := same_upd (gF.free hhd)
    have hhd' : upd GD hd (.lst (rs.map V.int ++ [.int B.n, .int (-1)])) hd = some (.lst ((rs ++ [(B.n : Int), -1]).map V.int)) := by rw [upd_same, List.map_append]; rfl
    generalize upd GD hd (.lst (rs.map V.int ++ [.int B.n, .int (-1)])) = GG at gG sG hhd'
    generalize upd HF hd (.lst (rs.map V.int ++ [.int B.n, .int (-1)])) = HG at gG
    -- _law_due
    have s3G : Same G3 GG := x4.gg.trans (x5.gg.trans (sD.trans sG))
    refine ⟨_, rfl, _, rfl, _, rfl, _, rfl, GG, r3, B, .ref c2, pl, t, hd, W, rs, [(B.n : Int), -1], rfl, gG, ab3.mono s3G, gB, pos_at (sG _ _ (sD _ _ hc2)), hpm.1, hhd', wk, by omega, .inl ⟨.inr (by rw [hwin]; exact fun z => nomatch z), fun GH HH rH tl xH htl htl0 arH => ?_⟩⟩
    have etl : tl = [] := htl0 (by rw [hwin]; exact fun z => nomatch z)
    subst etl
    rw [List.append_nil] at arH
    have sH : Same GD GH := sG.trans xH.gg
    -- the same places
    refine ⟨_, rfl, _, rfl, .inr (.inl ⟨ga, _, 0, .ref ma, rfl, rfl, SqT.of (xH.gh _ _ (sH _ _ hga)), atI_nat (j := 0) rfl, rH, .ref ma, pl :: W, rfl, arH.mono xH.gh, hmaD.mono (sH.trans xH.gh), by rw [List.length_cons]; omega, _, rfl, iteF ?_⟩)⟩
    -- as it was
    have abH : At GH (.ref p) (boardD B) := ab5.mono (sD.trans sH)
    refine ⟨_, rfl, _, rfl, r3, .ref p, boardD B, rfl, (ab3.mono (s3G.trans xH.gg)).mono xH.gh, abH.mono xH.gh, noB_board B, sz_ok gB, fun HI sI => ⟨_, rfl, iteF ?_⟩⟩
    have gI : Same GH HI := xH.gh.trans sI
    refine ⟨_, rfl, _, rfl, .inr (.inl ⟨ga, _, 1, .ref ra, rfl, rfl, SqT.of (gI _ _ (sH _ _ hga)), atI_nat (j := 1) rfl, _, rfl, .inr (.inl ⟨p, _, 0, .int B.n, rfl, rfl, SqT.of (gI _ _ (sH _ _ hp5')), atI_nat (j := 0) rfl, _, rfl, few (by show 2 ≤ 1000; decide), fun l2 hl2 => ?_⟩)⟩)⟩
    have s2 := same_upd (o := .lst [.int B.n, .int (-1)]) hl2
    have hl2' : upd HI l2 (.lst [.int B.n, .int (-1)]) l2 = some (.lst [.int B.n, .int (-1)]) := upd_same
    generalize upd HI l2 (.lst [.int B.n, .int (-1)]) = HJ at s2 hl2'
    have gJ : Same GH HJ := gI.trans s2
    refine ⟨ra, l2, _, _, rfl, rfl, gJ _ _ (sH _ _ hra), hl2', few2, fun h2 hh2 => ?_⟩
    have s4 := same_upd (o := .lst (rs.map V.int ++ [.int B.n, .int (-1)])) hh2
    have hh2' : upd HJ h2 (.lst (rs.map V.int ++ [.int B.n, .int (-1)])) h2 = some (.lst ((rs ++ [(B.n : Int), -1]).map V.int)) := by rw [upd_same, List.map_append]; rfl
    generalize upd HJ h2 (.lst (rs.map V.int ++ [.int B.n, .int (-1)])) = HK at s4 hh2'
    have gK : Same GH HK := gJ.trans s4
    refine ⟨.ref hd, .ref h2, .list ((rs ++ [(B.n : Int), -1]).map .int), rfl, .lst (gK _ _ (xH.gg _ _ hhd')) (AtAll.ints _), .lst hh2' (AtAll.ints _), ?_, ?_, fun HL sL => ⟨_, rfl, iteF ?_⟩⟩
    · simp only [noB, noBs_ints]
    · simp only [sz, szs_ints, List.length_append, List.length_cons, List.length_nil]
      omega
    have gL : Same GH HL := gK.trans sL
    -- strangers
    refine ⟨_, rfl, _, rfl, _, rfl, GH, .ref p, B, ga, ma, ra, pl, W, rs, t, rfl, gL, abH, gB, sH _ _ hga, hmaD.mono sH, sH _ _ hra, wk, by omega, fun GY HY sa ys xY hsa hys => ?_⟩
    refine ⟨sa, rfl, ⟨_, SqL.of (xY.gh _ _ hsa)⟩, ?_⟩
    refine for_list (xs := ys.map V.int) (fun i σ H' => ∃ (v : Option V), σ = [some (.ref a2), some (.ref p), some r3, some (.ref fa), some (.ref ka), some (.ref wa), some (.ref E2), some (.int pick), some (.ref c2), some (.str (sd t)), some (.int (n : Int)), v, some (.ref ga), some (.ref hd), some rH] ∧ Same HY H') ⟨_, rfl, Same.refl _⟩ ?_ ?_ ?_
    · rintro i σ H' hi ⟨v, rfl, s'⟩
      exact SqL.of (s' _ _ (xY.gh _ _ hsa))
    · rintro i x σ H' hx ⟨v, rfl, s'⟩
      rw [List.getElem?_map] at hx
      cases hy : ys[i]? with
      | none => rw [hy] at hx; cases hx
      | some y =>
        rw [hy] at hx
        have hx : V.int y = x := Option.some.inj hx
        subst hx
        obtain ⟨W1, rs1, y0, e1, e2, wk1, hw1, ht1, hny⟩ := hys y (List.mem_of_getElem? hy)
        have gM : Same GY H' := xY.gh.trans s'
        have sY : Same GD GY := sH.trans xY.gg
        have hraY := sY _ _ hra
        rw [e1, List.map_append] at hraY
        refine ⟨_, rfl, _, rfl, _, rfl, _, rfl, .inr (.inl ⟨ga, _, 1, .ref ra, rfl, rfl, SqT.of (gM _ _ (sY _ _ hga)), atI_nat (j := 1) rfl, _, rfl, _, rfl, ra, _, rfl, SqL.of (gM _ _ hraY), fun e he => ?_⟩)⟩
        rw [show cutV (rs1.map V.int ++ [y0].map V.int) none (some (-1)) = rs1.map V.int from cut_last _ _]
        have s5 := same_upd (o := .lst (rs1.map V.int)) he
        have he' : upd H' e (.lst (rs1.map V.int)) e = some (.lst (rs1.map V.int)) := upd_same
        generalize upd H' e (.lst (rs1.map V.int)) = HM at s5 he'
        refine ⟨_, rfl, few (by show 1 ≤ 1000; decide), fun l hl => ?_⟩
        have s6 := same_upd (o := .lst [.int y]) hl
        have hl' : upd HM l (.lst [.int y]) l = some (.lst [.int y]) := upd_same
        generalize upd HM l (.lst [.int y]) = HN at s6 hl'
        have hr1 : rs1.length ≤ 98 := by
          rw [e1, List.length_append] at hrl
          omega
        refine ⟨e, l, _, _, rfl, rfl, s6 _ _ he', hl', few (by rw [List.length_map]; show rs1.length + 1 ≤ 1000; omega), fun c hc => ?_⟩
        have gN : Same GY HN := gM.trans (s5.trans s6)
        have gO : Same (upd GY c (.lst (rs1.map V.int ++ [.int y]))) (upd HN c (.lst (rs1.map V.int ++ [.int y]))) := gN.upd2
        have sO : Same GY (upd GY c (.lst (rs1.map V.int ++ [.int y]))) := same_upd (gN.free hc)
        have sHO := same_upd (o := .lst (rs1.map V.int ++ [.int y])) hc
        have hc' : upd GY c (.lst (rs1.map V.int ++ [.int y])) c = some (.lst ((rs1 ++ [y]).map V.int)) := by rw [upd_same, List.map_append]; rfl
        generalize upd GY c (.lst (rs1.map V.int ++ [.int y])) = GO at gO sO hc'
        generalize upd HN c (.lst (rs1.map V.int ++ [.int y])) = HO' at gO sHO
        have sYO := sY.trans sO
        exact ⟨GO, .ref p, B, .ref c2, pl, t, c, W1, rs1, y, rfl, gO, (ab5.mono sD).mono sYO, gB, pos_at (sYO _ _ (sD _ _ hc2)), hpm.1, hc', wk1, by omega, hw1, ht1, hny, fun HP sP => ⟨_, rfl, iteF ⟨_, rfl, s'.trans (s5.trans (s6.trans (sHO.trans sP)))⟩⟩⟩
    · rintro σ H' ⟨v, rfl, s'⟩
      exact q _

end
end K05
end
set_option Elab.async false
set_option linter.all false
set_option maxRecDepth 100000
set_option maxHeartbeats 4000000
namespace K05
open PySem L2 Fx
structure Got (K : PySem.W.Frag) (py : Str) (st : Stmt) : Prop where
  ex : ∃ (f : Addr) (fd : FuncData), PySem.W.nsIn K mainGlobals py = some (some (.ref f)) ∧ Fun K py py st f fd
theorem got_mk {K : PySem.W.Frag} {py : Str} {st : Stmt} {f : Addr} {oc : Value} {od an : Option Addr} {osl : Array (Option Value)} {kV dc pm cd ct : Value} (a : PySem.W.nsIn K mainGlobals py = some (some (.ref f)))
    (l : K.lookup f = some ⟨oc, od, .func (PySem.W.fnOf py py (defArgs st) (defBody st) (defScope st) .none kV dc pm an cd ct), osl⟩) (c : PySem.W.codeIn K cd py = true) (k : PySem.W.keepIn K (.ref f) = true) : Got K py st := ⟨⟨f, _, a, fun_mk l c k⟩⟩
theorem all_mk {l : PySem.W.OpenLaw} {w : World} {K : PySem.W.Frag} {h : Heap} {mg : Str → Option Value} {fa : Addr} (X : K.In h) (G : h.Ns mainGlobals mg) (hfa : mg "law" = some (.ref fa))
    (d0 : Got K "numbers_told" sNums)
    (d1 : Got K "holds_twice" sTwice)
    (d2 : Got K "check_board" sCheck)
    (d3 : Got K "ways_from" sWays)
    (d4 : Got K "positions_of" sPositions)
    (d5 : Got K "other_side" sOther)
    (d6 : Got K "lanes_ahead" sAhead)
    (d7 : Got K "moved" sMoved)
    (d8 : Got K "winner" sWinner)
    (d9 : Got K "ended_positions" sEnded)
    (d10 : Got K "positions_behind" sBehind)
    (d11 : Got K "side_that_wins" sSide)
    (d12 : Got K "newly_won" sNewly)
    (d13 : Got K "won_positions" sWon)
    (d14 : Got K "move_told" sMoveTold)
    (d15 : Got K "verdicts_on" sVerdicts)
    (d16 : Got K "solved" sSolved)
    (d17 : Got K "check_lane" sLane)
    (d18 : Got K "played" sPlayed)
    (d19 : Got K "_law_whole" sWhole)
    (d20 : Got K "_law_at" sAt)
    (d21 : Got K "_law_board_by" sBoard)
    (d22 : Got K "_law_ways_of" sWaysOf)
    (d23 : Got K "_law_turned" sTurned)
    (d24 : Got K "_law_yard_of" sYardOf)
    (d25 : Got K "_law_winner_at" sWinnerAt)
    (d26 : Got K "_law_next" sNext)
    (d27 : Got K "_law_is_place" sIsPlace)
    (d28 : Got K "_law_same_places" sSame)
    (d29 : Got K "_law_is_entry" sIsEntry)
    (d30 : Got K "_law_table_of" sTableOf)
    (d31 : Got K "_law_game_by" sGameBy)
    (d32 : Got K "_law_barred" sBarred)
    (d33 : Got K "_law_stays_so" sStays)
    (d34 : Got K "_law_strangers" sStrangers)
    (d35 : Got K "_law_as_it_was" sAsWas)
    (d36 : Got K "law" sLaw)
    (z_len : PySem.W.nsIn K mainGlobals "len" = some none)
    (z_set : PySem.W.nsIn K mainGlobals "set" = some none)
    (z_isinstance : PySem.W.nsIn K mainGlobals "isinstance" = some none)
    (z_sorted : PySem.W.nsIn K mainGlobals "sorted" = some none)
    (z_range : PySem.W.nsIn K mainGlobals "range" = some none)
    (z_int : PySem.W.nsIn K mainGlobals "int" = some none)
    (z_bool : PySem.W.nsIn K mainGlobals "bool" = some none)
    (z_str : PySem.W.nsIn K mainGlobals "str" = some none)
    (z_list : PySem.W.nsIn K mainGlobals "list" = some none)
    (z_tuple : PySem.W.nsIn K mainGlobals "tuple" = some none)
    (c_NoLane : Fx.GotC K "NoLane")
    (M_NoLane_NoLane : Fx.GotM K "NoLane" "NoLane" true)
    : ∃ fd : FuncData, (∀ (s : Shared) (v : Value), BindsTo s fd ⟨[v], []⟩ [("_law_script", v)]) ∧ ∀ base : Heap, K.In base → base.Ns mainGlobals mg → FnOk l.prog w K mg base CX0 9 fa fd ["_law_script"] (spLaw K) := by
  have T : Txt mg := ⟨PySem.W.mg_none_of X G z_len, PySem.W.mg_none_of X G z_set, PySem.W.mg_none_of X G z_isinstance, PySem.W.mg_none_of X G z_sorted, PySem.W.mg_none_of X G z_range, PySem.W.mg_none_of X G z_int, PySem.W.mg_none_of X G z_bool, PySem.W.mg_none_of X G z_str, PySem.W.mg_none_of X G z_list, PySem.W.mg_none_of X G z_tuple⟩
  obtain ⟨f0, e0, a0, F0⟩ := d0.ex
  have b0 := F0.binds (ps := ["board"]) fun _ _ _ _ _ _ us hl => match us, hl with | [_], _ => rfl
  obtain ⟨f1, e1, a1, F1⟩ := d1.ex
  have b1 := F1.binds (ps := ["parts"]) fun _ _ _ _ _ _ us hl => match us, hl with | [_], _ => rfl
  obtain ⟨f2, e2, a2, F2⟩ := d2.ex
  have b2 := F2.binds (ps := ["board"]) fun _ _ _ _ _ _ us hl => match us, hl with | [_], _ => rfl
  obtain ⟨f3, e3, a3, F3⟩ := d3.ex
  have b3 := F3.binds (ps := ["board", "yard"]) fun _ _ _ _ _ _ us hl => match us, hl with | [_, _], _ => rfl
  obtain ⟨f4, e4, a4, F4⟩ := d4.ex
  have b4 := F4.binds (ps := ["board"]) fun _ _ _ _ _ _ us hl => match us, hl with | [_], _ => rfl
  obtain ⟨f5, e5, a5, F5⟩ := d5.ex
  have b5 := F5.binds (ps := ["side"]) fun _ _ _ _ _ _ us hl => match us, hl with | [_], _ => rfl
  obtain ⟨f6, e6, a6, F6⟩ := d6.ex
  have b6 := F6.binds (ps := ["board", "position"]) fun _ _ _ _ _ _ us hl => match us, hl with | [_, _], _ => rfl
  obtain ⟨f7, e7, a7, F7⟩ := d7.ex
  have b7 := F7.binds (ps := ["position", "yard"]) fun _ _ _ _ _ _ us hl => match us, hl with | [_, _], _ => rfl
  obtain ⟨f8, e8, a8, F8⟩ := d8.ex
  have b8 := F8.binds (ps := ["board", "position"]) fun _ _ _ _ _ _ us hl => match us, hl with | [_, _], _ => rfl
  obtain ⟨f9, e9, a9, F9⟩ := d9.ex
  have b9 := F9.binds (ps := ["board"]) fun _ _ _ _ _ _ us hl => match us, hl with | [_], _ => rfl
  obtain ⟨f10, e10, a10, F10⟩ := d10.ex
  have b10 := F10.binds (ps := ["board", "ended"]) fun _ _ _ _ _ _ us hl => match us, hl with | [_, _], _ => rfl
  obtain ⟨f11, e11, a11, F11⟩ := d11.ex
  have b11 := F11.binds (ps := ["won", "turn", "behind"]) fun _ _ _ _ _ _ us hl => match us, hl with | [_, _, _], _ => rfl
  obtain ⟨f12, e12, a12, F12⟩ := d12.ex
  have b12 := F12.binds (ps := ["won", "behind"]) fun _ _ _ _ _ _ us hl => match us, hl with | [_, _], _ => rfl
  obtain ⟨f13, e13, a13, F13⟩ := d13.ex
  have b13 := F13.binds (ps := ["board"]) fun _ _ _ _ _ _ us hl => match us, hl with | [_], _ => rfl
  obtain ⟨f14, e14, a14, F14⟩ := d14.ex
  have b14 := F14.binds (ps := ["board", "won", "position"]) fun _ _ _ _ _ _ us hl => match us, hl with | [_, _, _], _ => rfl
  obtain ⟨f15, e15, a15, F15⟩ := d15.ex
  have b15 := F15.binds (ps := ["board"]) fun _ _ _ _ _ _ us hl => match us, hl with | [_], _ => rfl
  obtain ⟨f16, e16, a16, F16⟩ := d16.ex
  have b16 := F16.binds (ps := ["board"]) fun _ _ _ _ _ _ us hl => match us, hl with | [_], _ => rfl
  obtain ⟨f17, e17, a17, F17⟩ := d17.ex
  have b17 := F17.binds (ps := ["board", "position", "yard"]) fun _ _ _ _ _ _ us hl => match us, hl with | [_, _, _], _ => rfl
  obtain ⟨f18, e18, a18, F18⟩ := d18.ex
  have b18 := F18.binds (ps := ["board", "position", "side", "replies"]) fun _ _ _ _ _ _ us hl => match us, hl with | [_, _, _, _], _ => rfl
  obtain ⟨f19, e19, a19, F19⟩ := d19.ex
  have b19 := F19.binds (ps := ["_law_found"]) fun _ _ _ _ _ _ us hl => match us, hl with | [_], _ => rfl
  obtain ⟨f20, e20, a20, F20⟩ := d20.ex
  have b20 := F20.binds (ps := ["_law_script", "_law_k"]) fun _ _ _ _ _ _ us hl => match us, hl with | [_, _], _ => rfl
  obtain ⟨f21, e21, a21, F21⟩ := d21.ex
  have b21 := F21.binds (ps := ["_law_script"]) fun _ _ _ _ _ _ us hl => match us, hl with | [_], _ => rfl
  obtain ⟨f22, e22, a22, F22⟩ := d22.ex
  have b22 := F22.binds (ps := ["_law_board", "_law_yard"]) fun _ _ _ _ _ _ us hl => match us, hl with | [_, _], _ => rfl
  obtain ⟨f23, e23, a23, F23⟩ := d23.ex
  have b23 := F23.binds (ps := ["_law_side"]) fun _ _ _ _ _ _ us hl => match us, hl with | [_], _ => rfl
  obtain ⟨f24, e24, a24, F24⟩ := d24.ex
  have b24 := F24.binds (ps := ["_law_position"]) fun _ _ _ _ _ _ us hl => match us, hl with | [_], _ => rfl
  obtain ⟨f25, e25, a25, F25⟩ := d25.ex
  have b25 := F25.binds (ps := ["_law_board", "_law_position"]) fun _ _ _ _ _ _ us hl => match us, hl with | [_, _], _ => rfl
  obtain ⟨f26, e26, a26, F26⟩ := d26.ex
  have b26 := F26.binds (ps := ["_law_position", "_law_yard"]) fun _ _ _ _ _ _ us hl => match us, hl with | [_, _], _ => rfl
  obtain ⟨f27, e27, a27, F27⟩ := d27.ex
  have b27 := F27.binds (ps := ["_law_found"]) fun _ _ _ _ _ _ us hl => match us, hl with | [_], _ => rfl
  obtain ⟨f28, e28, a28, F28⟩ := d28.ex
  have b28 := F28.binds (ps := ["_law_found", "_law_due"]) fun _ _ _ _ _ _ us hl => match us, hl with | [_, _], _ => rfl
  obtain ⟨f29, e29, a29, F29⟩ := d29.ex
  have b29 := F29.binds (ps := ["_law_found"]) fun _ _ _ _ _ _ us hl => match us, hl with | [_], _ => rfl
  obtain ⟨f30, e30, a30, F30⟩ := d30.ex
  have b30 := F30.binds (ps := ["_law_found", "_law_count"]) fun _ _ _ _ _ _ us hl => match us, hl with | [_, _], _ => rfl
  obtain ⟨f31, e31, a31, F31⟩ := d31.ex
  have b31 := F31.binds (ps := ["_law_board", "_law_table", "_law_start", "_law_side", "_law_cells", "_law_most"]) fun _ _ _ _ _ _ us hl => match us, hl with | [_, _, _, _, _, _], _ => rfl
  obtain ⟨f32, e32, a32, F32⟩ := d32.ex
  have b32 := F32.binds (ps := ["_law_board", "_law_start", "_law_side", "_law_replies"]) fun _ _ _ _ _ _ us hl => match us, hl with | [_, _, _, _], _ => rfl
  obtain ⟨f33, e33, a33, F33⟩ := d33.ex
  have b33 := F33.binds (ps := ["_law_handed", "_law_own"]) fun _ _ _ _ _ _ us hl => match us, hl with | [_, _], _ => rfl
  obtain ⟨f34, e34, a34, F34⟩ := d34.ex
  have b34 := F34.binds (ps := ["_law_board", "_law_game", "_law_who"]) fun _ _ _ _ _ _ us hl => match us, hl with | [_, _, _], _ => rfl
  obtain ⟨f35, e35, a35, F35⟩ := d35.ex
  have b35 := F35.binds (ps := ["_law_handed", "_law_own"]) fun _ _ _ _ _ _ us hl => match us, hl with | [_, _], _ => rfl
  obtain ⟨f36, e36, a36, F36⟩ := d36.ex
  have e := hfa.symm.trans (PySem.W.mg_of X G a36)
  cases e
  have FL := F36
  obtain ⟨⟨oc, od, kV, dc, pm, an, cd, ct, osl, eL, lk, hcd⟩, kp⟩ := FL
  subst eL
  refine ⟨PySem.W.fnOf "law" "law" (defArgs sLaw) (defBody sLaw) (defScope sLaw) .none kV dc pm an cd ct, fun s v => .of_eq rfl, fun base _ _ => ?_⟩
  obtain ⟨A_NoLane, a_NoLane, x_NoLane⟩ := c_NoLane.ex
  let L_NoLane : Kls K mg "NoLane" := ⟨A_NoLane, PySem.W.mg_of X G a_NoLane, x_NoLane, a_NoLane⟩
  replace M_NoLane_NoLane : PySem.W.exmOne K (.ref L_NoLane.C) (.ref L_NoLane.C) = some true := M_NoLane_NoLane.of a_NoLane a_NoLane
  let C_numbers_told : Cal l.prog w K mg base 1 "numbers_told" ["board"] spNums := ⟨f0, _, ok_nums F0 T, PySem.W.mg_of X G a0, F0.kp, b0⟩
  let C_holds_twice : Cal l.prog w K mg base 1 "holds_twice" ["parts"] spTwice := ⟨f1, _, ok_twice F1 T, PySem.W.mg_of X G a1, F1.kp, b1⟩
  let C_check_board : Cal l.prog w K mg base 2 "check_board" ["board"] spCheck := ⟨f2, _, ok_check F2 T C_numbers_told C_holds_twice, PySem.W.mg_of X G a2, F2.kp, b2⟩
  let C_ways_from : Cal l.prog w K mg base 1 "ways_from" ["board", "yard"] spWays := ⟨f3, _, ok_ways F3 T, PySem.W.mg_of X G a3, F3.kp, b3⟩
  let C_positions_of : Cal l.prog w K mg base 1 "positions_of" ["board"] spPositions := ⟨f4, _, ok_positions F4 T, PySem.W.mg_of X G a4, F4.kp, b4⟩
  let C_other_side : Cal l.prog w K mg base 1 "other_side" ["side"] spOther := ⟨f5, _, ok_other F5 T, PySem.W.mg_of X G a5, F5.kp, b5⟩
  let C_lanes_ahead : Cal l.prog w K mg base 2 "lanes_ahead" ["board", "position"] spAhead := ⟨f6, _, ok_ahead F6 T C_ways_from, PySem.W.mg_of X G a6, F6.kp, b6⟩
  let C_moved : Cal l.prog w K mg base 1 "moved" ["position", "yard"] spMoved := ⟨f7, _, ok_moved F7 T, PySem.W.mg_of X G a7, F7.kp, b7⟩
  let C_winner : Cal l.prog w K mg base 3 "winner" ["board", "position"] spWinner := ⟨f8, _, ok_winner F8 T C_lanes_ahead C_other_side, PySem.W.mg_of X G a8, F8.kp, b8⟩
  let C_ended_positions : Cal l.prog w K mg base 4 "ended_positions" ["board"] spEnded := ⟨f9, _, ok_ended F9 T C_positions_of C_winner, PySem.W.mg_of X G a9, F9.kp, b9⟩
  let C_positions_behind : Cal l.prog w K mg base 3 "positions_behind" ["board", "ended"] spBehind := ⟨f10, _, ok_behind F10 T C_positions_of C_lanes_ahead C_moved, PySem.W.mg_of X G a10, F10.kp, b10⟩
  let C_side_that_wins : Cal l.prog w K mg base 2 "side_that_wins" ["won", "turn", "behind"] spSide := ⟨f11, _, ok_side F11 T C_other_side, PySem.W.mg_of X G a11, F11.kp, b11⟩
  let C_newly_won : Cal l.prog w K mg base 3 "newly_won" ["won", "behind"] spNewly := ⟨f12, _, ok_newly F12 T C_side_that_wins, PySem.W.mg_of X G a12, F12.kp, b12⟩
  let C_won_positions : Cal l.prog w K mg base 5 "won_positions" ["board"] spWon := ⟨f13, _, ok_won F13 T C_ended_positions C_positions_behind C_newly_won, PySem.W.mg_of X G a13, F13.kp, b13⟩
  let C_move_told : Cal l.prog w K mg base 3 "move_told" ["board", "won", "position"] spMoveTold := ⟨f14, _, ok_moveTold F14 T C_lanes_ahead C_moved, PySem.W.mg_of X G a14, F14.kp, b14⟩
  let C_verdicts_on : Cal l.prog w K mg base 6 "verdicts_on" ["board"] spVerdicts := ⟨f15, _, ok_verdicts F15 T C_check_board C_won_positions C_positions_of C_move_told, PySem.W.mg_of X G a15, F15.kp, b15⟩
  let C_solved : Cal l.prog w K mg base 7 "solved" ["board"] spSolved := ⟨f16, _, ok_solved F16 T C_verdicts_on, PySem.W.mg_of X G a16, F16.kp, b16⟩
  let C_check_lane : CalX l.prog w K mg base 3 "check_lane" ["board", "position", "yard"] (spLane L_NoLane.C) := ⟨f17, _, ok_lane F17 T L_NoLane C_lanes_ahead, PySem.W.mg_of X G a17, F17.kp, b17⟩
  let C_played : CalX l.prog w K mg base 7 "played" ["board", "position", "side", "replies"] (spPlayed L_NoLane.C) := ⟨f18, _, ok_played F18 T L_NoLane C_verdicts_on C_moved C_check_lane, PySem.W.mg_of X G a18, F18.kp, b18⟩
  let C__law_whole : Cal l.prog w K mg base 1 "_law_whole" ["_law_found"] spWhole := ⟨f19, _, ok_whole F19 T, PySem.W.mg_of X G a19, F19.kp, b19⟩
  let C__law_at : Cal l.prog w K mg base 1 "_law_at" ["_law_script", "_law_k"] spAt := ⟨f20, _, ok_at F20 T, PySem.W.mg_of X G a20, F20.kp, b20⟩
  let C__law_board_by : Cal l.prog w K mg base 2 "_law_board_by" ["_law_script"] (spBoard menuB) := ⟨f21, _, ok_board F21 T C__law_at, PySem.W.mg_of X G a21, F21.kp, b21⟩
  let C__law_ways_of : Cal l.prog w K mg base 1 "_law_ways_of" ["_law_board", "_law_yard"] spWaysOf := ⟨f22, _, ok_waysOf F22 T, PySem.W.mg_of X G a22, F22.kp, b22⟩
  let C__law_turned : Cal l.prog w K mg base 1 "_law_turned" ["_law_side"] spTurned := ⟨f23, _, ok_turned F23 T, PySem.W.mg_of X G a23, F23.kp, b23⟩
  let C__law_yard_of : Cal l.prog w K mg base 1 "_law_yard_of" ["_law_position"] spYardOf := ⟨f24, _, ok_yardOf F24 T, PySem.W.mg_of X G a24, F24.kp, b24⟩
  let C__law_winner_at : Cal l.prog w K mg base 2 "_law_winner_at" ["_law_board", "_law_position"] spWinnerAt := ⟨f25, _, ok_winnerAt F25 T C__law_ways_of C__law_yard_of C__law_turned, PySem.W.mg_of X G a25, F25.kp, b25⟩
  let C__law_next : Cal l.prog w K mg base 1 "_law_next" ["_law_position", "_law_yard"] spNext := ⟨f26, _, ok_next F26 T, PySem.W.mg_of X G a26, F26.kp, b26⟩
  let C__law_is_place : Cal l.prog w K mg base 2 "_law_is_place" ["_law_found"] spIsPlace := ⟨f27, _, ok_isPlace F27 T C__law_whole, PySem.W.mg_of X G a27, F27.kp, b27⟩
  let C__law_same_places : Cal l.prog w K mg base 3 "_law_same_places" ["_law_found", "_law_due"] spSame := ⟨f28, _, ok_same F28 T C__law_is_place, PySem.W.mg_of X G a28, F28.kp, b28⟩
  let C__law_is_entry : Cal l.prog w K mg base 3 "_law_is_entry" ["_law_found"] spIsEntry := ⟨f29, _, ok_isEntry F29 T C__law_whole C__law_is_place, PySem.W.mg_of X G a29, F29.kp, b29⟩
  let C__law_table_of : Cal l.prog w K mg base 4 "_law_table_of" ["_law_found", "_law_count"] spTableOf := ⟨f30, _, ok_tableOf F30 T C__law_is_entry, PySem.W.mg_of X G a30, F30.kp, b30⟩
  let C__law_game_by : Cal l.prog w K mg base 3 "_law_game_by" ["_law_board", "_law_table", "_law_start", "_law_side", "_law_cells", "_law_most"] spGameBy := ⟨f31, _, ok_gameBy F31 T C__law_winner_at C__law_ways_of C__law_yard_of C__law_next, PySem.W.mg_of X G a31, F31.kp, b31⟩
  let C__law_barred : Cal l.prog w K mg base 8 "_law_barred" ["_law_board", "_law_start", "_law_side", "_law_replies"] spBarred := ⟨f32, _, ok_barred F32 T L_NoLane M_NoLane_NoLane C_played, PySem.W.mg_of X G a32, F32.kp, b32⟩
  let C__law_stays_so : Cal l.prog w K mg base 1 "_law_stays_so" ["_law_handed", "_law_own"] spStays := ⟨f33, _, ok_stays F33 T, PySem.W.mg_of X G a33, F33.kp, b33⟩
  let C__law_strangers : Cal l.prog w K mg base 2 "_law_strangers" ["_law_board", "_law_game", "_law_who"] spStrangers := ⟨f34, _, ok_strangers F34 T C__law_ways_of C__law_yard_of, PySem.W.mg_of X G a34, F34.kp, b34⟩
  let C__law_as_it_was : Cal l.prog w K mg base 1 "_law_as_it_was" ["_law_handed", "_law_own"] spAsWas := ⟨f35, _, ok_asWas F35 T, PySem.W.mg_of X G a35, F35.kp, b35⟩
  exact ok_law F36 T L_NoLane C__law_at C__law_board_by C_solved C_played C__law_barred C__law_strangers C__law_as_it_was C__law_stays_so C__law_game_by C__law_same_places C__law_table_of C__law_winner_at
theorem walk {l : PySem.W.OpenLaw} {q : Program} {loose : List Str} {XP : (Str → Option Value) → Heap → Prop} {YP : World → Heap → Prop} {d : DefRec} {K : Params → PySem.W.Frag} (hn : l.most = some 63) (hdf : d.params.defaults = [])
    (hY : ∀ (w : World) (h : Heap), YP w h → (K w.params).In h)
    (F : ∀ (w : World) (mg : Str → Option Value) (fa : Addr) (h : Heap), (K w.params).In h → h.Ns mainGlobals mg → mg d.name = some (.ref fa) →
      ∃ fd : FuncData, (∀ (s : Shared) (u : Value), BindsTo s fd ⟨[u], []⟩ [("_law_script", u)]) ∧ ∀ base : Heap, (K w.params).In base → base.Ns mainGlobals mg → FnOk l.prog w (K w.params) mg base CX0 9 fa fd ["_law_script"] (spLaw (K w.params))) :
    PySem.W.WalkO q loose XP YP l.row.toRowW d [] (fun f vs => PySem.call f vs) :=
  L2.walk_of (n := 63) (k := 9) (x := "_law_script") (CX := fun _ => CX0) (sp := fun w => spLaw (K w.params)) hn (by decide) hdf ⟨rfl, by decide, by decide⟩ hY F (fun _ _ a ns hl _ hS => ⟨a, ns, rfl, hS, hl, fun _ => rfl⟩) fun _ _ _ _ _ z => z
end K05
open PySem PySem.W PyProof.Rows
theorem PySem.W.Fast.tw17886888118421199383 : True := trivial
theorem PySem.W.Fast.tw9497264206998591223 : True := trivial
theorem PySem.W.Fast.tw17445970235972950500 : True := trivial
theorem PySem.W.Fast.tw5037292410331675570 : True := trivial
theorem PySem.W.Fast.tw2784107949251542016 : True := trivial
theorem PySem.W.Fast.tw5374877549774620147 : True := trivial
theorem PySem.W.Fast.tw5891138080937448229 : True := trivial
theorem PySem.W.Fast.tw13793429371655538323 : True := trivial
theorem PySem.W.Fast.tw10891633165697035395 : True := trivial
theorem PySem.W.Fast.tw3379200352044331140 : True := trivial
theorem PySem.W.Fast.tw15186787241795969064 : True := trivial
theorem PySem.W.Fast.tw497268463520889911 : True := trivial
theorem PySem.W.Fast.tw6832004279525784872 : True := trivial
theorem PySem.W.Fast.tw9325200390703393716 : True := trivial
theorem PySem.W.Fast.tw579473770892096769 : True := trivial
theorem PySem.W.Fast.tw3684557361803119146 : True := trivial
theorem PySem.W.Fast.tw12206763655979008383 : True := trivial
theorem PySem.W.Fast.tw1220876683162054921 : True := trivial
set_option maxRecDepth 100000 in
set_option maxHeartbeats 0 in
theorem PySem.Challenge.cw_foxyard_k05_whole_winner_wins_holds : PySem.Challenge.rw_foxyard_k05_whole_winner_wins.Holds := by
  w_on; o_law; k_head; (case hw => w_witness2)
  k_fill
  refine K05.walk (l := PySem.Challenge.rw_foxyard_k05_whole_winner_wins) rfl rfl (fun w h Y => PySem.W.kIn_of Y) ?F
  case F =>
    intro w mg fa h KX G hmg
    refine' K05.all_mk KX G hmg ?d0 ?d1 ?d2 ?d3 ?d4 ?d5 ?d6 ?d7 ?d8 ?d9 ?d10 ?d11 ?d12 ?d13 ?d14 ?d15 ?d16 ?d17 ?d18 ?d19 ?d20 ?d21 ?d22 ?d23 ?d24 ?d25 ?d26 ?d27 ?d28 ?d29 ?d30 ?d31 ?d32 ?d33 ?d34 ?d35 ?d36 ?z_len ?z_set ?z_isinstance ?z_sorted ?z_range ?z_int ?z_bool ?z_str ?z_list ?z_tuple ?c_NoLane ?M_NoLane_NoLane
    (case d0 => (refine' K05.got_mk ?a ?l ?c ?k); (case a => k_is); (case l => k_is); (case c => k_is); (case k => k_is))
    (case d1 => (refine' K05.got_mk ?a ?l ?c ?k); (case a => k_is); (case l => k_is); (case c => k_is); (case k => k_is))
    (case d2 => (refine' K05.got_mk ?a ?l ?c ?k); (case a => k_is); (case l => k_is); (case c => k_is); (case k => k_is))
    (case d3 => (refine' K05.got_mk ?a ?l ?c ?k); (case a => k_is); (case l => k_is); (case c => k_is); (case k => k_is))
    (case d4 => (refine' K05.got_mk ?a ?l ?c ?k); (case a => k_is); (case l => k_is); (case c => k_is); (case k => k_is))
    (case d5 => (refine' K05.got_mk ?a ?l ?c ?k); (case a => k_is); (case l => k_is); (case c => k_is); (case k => k_is))
    (case d6 => (refine' K05.got_mk ?a ?l ?c ?k); (case a => k_is); (case l => k_is); (case c => k_is); (case k => k_is))
    (case d7 => (refine' K05.got_mk ?a ?l ?c ?k); (case a => k_is); (case l => k_is); (case c => k_is); (case k => k_is))
    (case d8 => (refine' K05.got_mk ?a ?l ?c ?k); (case a => k_is); (case l => k_is); (case c => k_is); (case k => k_is))
    (case d9 => (refine' K05.got_mk ?a ?l ?c ?k); (case a => k_is); (case l => k_is); (case c => k_is); (case k => k_is))
    (case d10 => (refine' K05.got_mk ?a ?l ?c ?k); (case a => k_is); (case l => k_is); (case c => k_is); (case k => k_is))
    (case d11 => (refine' K05.got_mk ?a ?l ?c ?k); (case a => k_is); (case l => k_is); (case c => k_is); (case k => k_is))
    (case d12 => (refine' K05.got_mk ?a ?l ?c ?k); (case a => k_is); (case l => k_is); (case c => k_is); (case k => k_is))
    (case d13 => (refine' K05.got_mk ?a ?l ?c ?k); (case a => k_is); (case l => k_is); (case c => k_is); (case k => k_is))
    (case d14 => (refine' K05.got_mk ?a ?l ?c ?k); (case a => k_is); (case l => k_is); (case c => k_is); (case k => k_is))
    (case d15 => (refine' K05.got_mk ?a ?l ?c ?k); (case a => k_is); (case l => k_is); (case c => k_is); (case k => k_is))
    (case d16 => (refine' K05.got_mk ?a ?l ?c ?k); (case a => k_is); (case l => k_is); (case c => k_is); (case k => k_is))
    (case d17 => (refine' K05.got_mk ?a ?l ?c ?k); (case a => k_is); (case l => k_is); (case c => k_is); (case k => k_is))
    (case d18 => (refine' K05.got_mk ?a ?l ?c ?k); (case a => k_is); (case l => k_is); (case c => k_is); (case k => k_is))
    (case d19 => (refine' K05.got_mk ?a ?l ?c ?k); (case a => k_is); (case l => k_is); (case c => k_is); (case k => k_is))
    (case d20 => (refine' K05.got_mk ?a ?l ?c ?k); (case a => k_is); (case l => k_is); (case c => k_is); (case k => k_is))
    (case d21 => (refine' K05.got_mk ?a ?l ?c ?k); (case a => k_is); (case l => k_is); (case c => k_is); (case k => k_is))
    (case d22 => (refine' K05.got_mk ?a ?l ?c ?k); (case a => k_is); (case l => k_is); (case c => k_is); (case k => k_is))
    (case d23 => (refine' K05.got_mk ?a ?l ?c ?k); (case a => k_is); (case l => k_is); (case c => k_is); (case k => k_is))
    (case d24 => (refine' K05.got_mk ?a ?l ?c ?k); (case a => k_is); (case l => k_is); (case c => k_is); (case k => k_is))
    (case d25 => (refine' K05.got_mk ?a ?l ?c ?k); (case a => k_is); (case l => k_is); (case c => k_is); (case k => k_is))
    (case d26 => (refine' K05.got_mk ?a ?l ?c ?k); (case a => k_is); (case l => k_is); (case c => k_is); (case k => k_is))
    (case d27 => (refine' K05.got_mk ?a ?l ?c ?k); (case a => k_is); (case l => k_is); (case c => k_is); (case k => k_is))
    (case d28 => (refine' K05.got_mk ?a ?l ?c ?k); (case a => k_is); (case l => k_is); (case c => k_is); (case k => k_is))
    (case d29 => (refine' K05.got_mk ?a ?l ?c ?k); (case a => k_is); (case l => k_is); (case c => k_is); (case k => k_is))
    (case d30 => (refine' K05.got_mk ?a ?l ?c ?k); (case a => k_is); (case l => k_is); (case c => k_is); (case k => k_is))
    (case d31 => (refine' K05.got_mk ?a ?l ?c ?k); (case a => k_is); (case l => k_is); (case c => k_is); (case k => k_is))
    (case d32 => (refine' K05.got_mk ?a ?l ?c ?k); (case a => k_is); (case l => k_is); (case c => k_is); (case k => k_is))
    (case d33 => (refine' K05.got_mk ?a ?l ?c ?k); (case a => k_is); (case l => k_is); (case c => k_is); (case k => k_is))
    (case d34 => (refine' K05.got_mk ?a ?l ?c ?k); (case a => k_is); (case l => k_is); (case c => k_is); (case k => k_is))
    (case d35 => (refine' K05.got_mk ?a ?l ?c ?k); (case a => k_is); (case l => k_is); (case c => k_is); (case k => k_is))
    (case d36 => (refine' K05.got_mk ?a ?l ?c ?k); (case a => k_is); (case l => k_is); (case c => k_is); (case k => k_is))
    (case z_len => k_is)
    (case z_set => k_is)
    (case z_isinstance => k_is)
    (case z_sorted => k_is)
    (case z_range => k_is)
    (case z_int => k_is)
    (case z_bool => k_is)
    (case z_str => k_is)
    (case z_list => k_is)
    (case z_tuple => k_is)
    (case c_NoLane => (refine' Fx.gotc_mk ?a ?e); (case a => k_is); (case e => k_exc))
    (case M_NoLane_NoLane => (refine' Fx.gotm_mk ?a ?b ?e); (case a => k_is); (case b => k_is); (case e => kts_exm))
