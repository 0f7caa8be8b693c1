import PyProof.Rows.All
import Wide.All
import OpenK.AllK
import Wide.FinOn
import Lean
import PyProof.EqAt
import PyProof.EqKinds
import PyProof.TupleCall
import PySem.Challenge.RW_sayswho_k22_whole_all_sayings

set_option Elab.async false
set_option linter.all false
set_option maxRecDepth 100000
/-! THE HAND LAYER, for ints, bools, texts, own classes, LISTS and tuples (index, slices, in, append, pop ..), calls, loops. Paste it whole ahead of your own text; what your proof does not reach may be deleted. -/
namespace L2
open PySem PySem.Spec PyProof.Rows

/-- a key: an int or a str -/
abbrev Key := Sum Int Str
def keyIs : Key → Value → Bool
  | .inl k, v => Value.isInt k v
  | .inr x, v => Value.isStrOf x v
def keyH (w : World) : Key → Int
  | .inl k => hashInt k
  | .inr x => hashStr w x
theorem keyIs_shape : ∀ {k : Key} {v : Value}, keyIs k v = true → (∃ i t, k = Sum.inl i ∧ v = Value.int i t) ∨ (∃ x t, k = Sum.inr x ∧ v = Value.str x t)
  | .inl i, v, h => by
    obtain ⟨t, e⟩ := Value.isInt_shape (k := i) (v := v) h
    exact .inl ⟨i, t, rfl, e⟩
  | .inr x, v, h => by
    obtain ⟨t, e⟩ := Value.isStrOf_shape (x := x) (v := v) h
    exact .inr ⟨x, t, rfl, e⟩
theorem keyIs_int (i : Int) (t : Tok) : keyIs (.inl i) (.int i t) = true := by simp [keyIs, Value.isInt]
theorem keyIs_str (x : Str) (t : Tok) : keyIs (.inr x) (.str x t) = true := by simp [keyIs, Value.isStrOf]
theorem key_ll (a b : Int) : decide ((Sum.inl a : Key) = Sum.inl b) = (a == b) := by
  by_cases e : a = b
  · subst e; simp
  · have h : ¬ (Sum.inl a : Key) = Sum.inl b := fun q => e (Sum.inl.inj q)
    rw [decide_eq_false h]
    exact (beq_eq_false_iff_ne.mpr e).symm
theorem key_rr (a b : Str) : decide ((Sum.inr a : Key) = Sum.inr b) = decide (a = b) := by
  by_cases e : a = b
  · subst e; simp
  · have h : ¬ (Sum.inr a : Key) = Sum.inr b := fun q => e (Sum.inr.inj q)
    rw [decide_eq_false h, decide_eq_false e]
theorem key_lr (a : Int) (b : Str) : decide ((Sum.inl a : Key) = Sum.inr b) = false := decide_eq_false (fun q => nomatch q)
theorem key_rl (a : Str) (b : Int) : decide ((Sum.inr a : Key) = Sum.inl b) = false := decide_eq_false (fun q => nomatch q)

def mixKind (prog : Program) (w : World) : PySem.KeyKind prog w Key where
  is := keyIs
  hash := keyH w
  inj := fun v a b ha hb => by
    rcases keyIs_shape ha with ⟨i, t, rfl, rfl⟩ | ⟨x, t, rfl, rfl⟩
    · rcases keyIs_shape hb with ⟨j, u, rfl, e⟩ | ⟨y, u, rfl, e⟩
      · injection e with e1 _; rw [e1]
      · exact nomatch e
    · rcases keyIs_shape hb with ⟨j, u, rfl, e⟩ | ⟨y, u, rfl, e⟩
      · exact nomatch e
      · injection e with e1 _; rw [e1]
  byValue := fun k v h => by
    rcases keyIs_shape h with ⟨i, t, rfl, rfl⟩ | ⟨x, t, rfl, rfl⟩ <;> rfl
  pyHash := fun hv h => by
    rcases keyIs_shape hv with ⟨i, t, rfl, rfl⟩ | ⟨x, t, rfl, rfl⟩
    · exact wpAny_pyHash_int h
    · exact wpAny_pyHash_str h
  eqBool := fun hu hv h => by
    rcases keyIs_shape hu with ⟨i, t, rfl, rfl⟩ | ⟨x, t, rfl, rfl⟩
    · rcases keyIs_shape hv with ⟨j, u, rfl, rfl⟩ | ⟨y, u, rfl, rfl⟩
      · rw [key_ll] at h; exact wpAny_eqBool_int h
      · rw [key_lr] at h; exact SeqAt.EqAt.int_str i t y u _ _ _ _ h
    · rcases keyIs_shape hv with ⟨j, u, rfl, rfl⟩ | ⟨y, u, rfl, rfl⟩
      · rw [key_rl] at h; exact SeqAt.EqAt.str_int x t j u _ _ _ _ h
      · rw [key_rr] at h; exact wpAny_eqBool_str h
  «strs» := fun k x t v h => by
    rcases keyIs_shape h with ⟨i, u, rfl, e⟩ | ⟨y, u, rfl, e⟩
    · exact nomatch e
    · injection e with e1 _
      subst e1
      cases v <;> rfl

theorem mixKind_int (prog : Program) (w : World) (i : Int) (t : Tok) : (mixKind prog w).is (.inl i) (.int i t) = true := keyIs_int i t
theorem mixKind_str (prog : Program) (w : World) (x : Str) (t : Tok) : (mixKind prog w).is (.inr x) (.str x t) = true := keyIs_str x t
end L2

namespace L2
open PySem PySem.Spec PyProof.Rows

/-- a value, without the heap -/
inductive V where
  | non | bl (b : Bool) | int (i : Int) | str (x : Str) | byt (b : Array UInt8) | flt (b : UInt64) | ref (a : Addr) | ty (n : String)
  deriving DecidableEq

def RelV : V → Value → Prop
  | .non, u => u = Value.none
  | .bl b, u => u = Value.bool b
  | .int i, u => ∃ t, u = Value.int i t
  | .str x, u => ∃ t, u = Value.str x t
  | .byt b, u => ∃ t, u = Value.bytes b t
  | .flt b, u => ∃ t, u = Value.float b t
  | .ref a, u => u = Value.ref a
  | .ty n, u => u = Value.type n

abbrev Vals : List V → List Value → Prop := Paired RelV
theorem Vals.length {xs : List V} {us : List Value} (r : Vals xs us) : xs.length = us.length := Paired.length r
theorem Vals.get : ∀ {xs : List V} {us : List Value} {i : Nat} {x : V}, Vals xs us → xs[i]? = some x → ∃ u, us[i]? = some u ∧ RelV x u
  | _, _, _, _, .nil, e => by simp at e
  | _, _, 0, _, .cons r _, e => by simp at e; subst e; exact ⟨_, rfl, r⟩
  | _, _, i + 1, x, .cons _ t, e => by
    obtain ⟨u, h1, h2⟩ := Vals.get (i := i) (x := x) t (by simpa using e)
    exact ⟨u, by simpa using h1, h2⟩
theorem Vals.set {x : V} {u : Value} (r : RelV x u) : ∀ {xs : List V} {us : List Value} (i : Nat), Vals xs us → Vals (xs.set i x) (us.set i u)
  | _, _, _, .nil => .nil
  | _, _, 0, .cons _ t => .cons r t
  | _, _, i + 1, .cons q t => .cons q (Vals.set r i t)
theorem Vals.append : ∀ {xs ys : List V} {us ws : List Value}, Vals xs us → Vals ys ws → Vals (xs ++ ys) (us ++ ws)
  | _, _, _, _, .nil, s => s
  | _, _, _, _, .cons r t, s => .cons r (Vals.append t s)
theorem Vals.take : ∀ {xs : List V} {us : List Value} (n : Nat), Vals xs us → Vals (xs.take n) (us.take n)
  | _, _, 0, _ => .nil
  | _, _, _ + 1, .nil => .nil
  | _, _, n + 1, .cons r t => .cons r (Vals.take n t)
theorem Vals.drop : ∀ {xs : List V} {us : List Value} (n : Nat), Vals xs us → Vals (xs.drop n) (us.drop n)
  | _, _, 0, r => r
  | _, _, _ + 1, .nil => .nil
  | _, _, n + 1, .cons _ t => Vals.drop n t

def RelO : Option V → Option Value → Prop
  | some v, some u => RelV v u
  | none, none => True
  | _, _ => False
def KV {κ : Type} : List (κ × V) → List (κ × Value) → Prop := Paired fun (p : κ × V) (q : κ × Value) => p.1 = q.1 ∧ RelV p.2 q.2

/-- a key of a dict (00_mix): an int or a text -/
def kV : Key → V
  | .inl i => .int i
  | .inr x => .str x

/-- what stands at a tracked address -/
inductive HO where
  /-- a list -/
  | lst (xs : List V)
  /-- a tuple (never changes) -/
  | tup (xs : List V)
  /-- a dict whose keys are ints and texts; one whose keys are tuples of ints and texts (the empty one is both) -/
  | dK (kvs : List (Key × V)) | dT (kvs : List (List Key × V))
  /-- a set of ints: its members, its size -/
  | set (S : Int → Bool) (n : Nat)
  /-- an instance of the class at C, its dict at dx, its attributes -/
  | ins (C dx : Addr) (fs : List (Str × V))
  /-- the dict of the instance at x -/
  | own (x : Addr)
  /-- the dict of an exception -/
  | xd (fs : List (Str × V))
  /-- a bound method, f of x -/
  | met (f x : Addr)
  /-- a range object lo, lo + 1, .. below hi -/
  | rng (lo hi : Int)
  /-- a thing that is known to the object (the script; a dict while a loop walks it): read, never written while it is so -/
  | frz (o : Obj) (u : HO)
  /-- a code object's table -/
  | tbl (ps : Array Value)
  /-- any other thing, by what is true of its one object (a def of one's own: SetO a S n := HO.ext fun h => ..) -/
  | ext (φ : Heap → Prop)

abbrev Hp := Addr → Option HO
def upd (H : Hp) (a : Addr) (o : HO) : Hp := fun b => if b = a then some o else H b
theorem upd_same {H : Hp} {a : Addr} {o : HO} : upd H a o a = some o := by unfold upd; rw [if_pos rfl]
theorem upd_ne {H : Hp} {a b : Addr} {o : HO} (h : b ≠ a) : upd H a o b = H b := by unfold upd; rw [if_neg h]
theorem upd_upd {H : Hp} {a : Addr} {o u : HO} : upd (upd H a o) a u = upd H a u := by
  funext b; unfold upd; split <;> rfl
/-- two objects of different content stand apart -/
theorem ne_of {H : Hp} {a b : Addr} {o u : HO} (h : H a = some o) (h' : H b = some u) (d : o ≠ u) : a ≠ b := by
  intro e; subst e; rw [h] at h'; exact d (Option.some.inj h')
theorem ne_of_none {H : Hp} {a b : Addr} {o : HO} (h : H a = some o) (h' : H b = none) : a ≠ b := by
  intro e; subst e; rw [h] at h'; cases h'

section
variable (P : Program) (w : World)
def ObjOk (H : Hp) (h : Heap) (a : Addr) : HO → Prop
  | .lst xs => xs.length ≤ sizeLine ∧ ∃ (its : List Value) (n : Nat), Vals xs its ∧ h.get? a = some { cls := .type "list", data := .seq its.toArray n }
  | .tup xs => xs.length ≤ sizeLine ∧ ∃ its : List Value, Vals xs its ∧ IsTup h a its.toArray
  | .dK kvs => kvs.length ≤ sizeLine ∧ (a == sysModules) = false ∧ ∃ vs, KV kvs vs ∧ h.DictOf (mixKind P w) a vs
  | .dT kvs => kvs.length ≤ sizeLine ∧ (a == sysModules) = false ∧ ∃ xs : List (List Key × Addr × Value),
      Paired (fun (p : List Key × V) (q : List Key × Addr × Value) => p.1 = q.1 ∧ H q.2.1 = some (.tup (p.1.map kV)) ∧ RelV p.2 q.2.2) kvs xs ∧
      ∃ o es ep, h.get? a = some o ∧ o.ExactDict ∧ o.data = .dict es ep ∧ es.toList = xs.map (entryOfKey (tupleKind (mixKind P w))) ∧ (xs.map (·.1)).Nodup
  | .set S n => h.SetOf (intKind P w) a S n
  | .ins C dx fs => H dx = some (.own a) ∧ fs.length ≤ 1000 ∧ dx ≠ a ∧ h.get? a = some (PySem.W.instObj C dx) ∧
      ∃ mA, h.Ns1 dx mA ∧ (∀ f, RelO (fs.lookup f) (mA f)) ∧ PySem.Within mA (fs.map (·.1))
  | .own _ => ∃ o, h.get? a = some o
  | .xd fs => ∃ mA, h.Ns1 a mA ∧ ∀ f, RelO (fs.lookup f) (mA f)
  | .rng lo hi => ∃ t u v, h.get? a = some { cls := .type "range", data := .fields #[.int lo t, .int hi u, .int 1 v] }
  | .frz o u => h.get? a = some o ∧ ObjOk H h a u
  | .tbl ps => h.get? a = some { cls := .none, data := .fields ps }
  | .met f x => h.get? a = some (PySem.W.methodObj (.ref f) (.ref x))
  | .ext φ => φ h ∧ (∃ o, h.get? a = some o) ∧ ∀ h1 h2 : Heap, φ h1 → (∀ o, h1.get? a = some o → h2.get? a = some o) → φ h2
/-- the abstract heap is held -/
def HOk (H : Hp) (h : Heap) : Prop := ∀ a o, H a = some o → ObjOk P w H h a o
end

section
variable {P : Program} {w : World} {H H' : Hp} {h h' : Heap} {a : Addr} {o : HO}
theorem ObjOk.lt (x : ObjOk P w H h a o) : a < h.objs.size := by
  cases o with
  | lst xs => obtain ⟨_, _, _, _, e⟩ := x; exact Heap.lt_size e
  | tup xs => obtain ⟨_, _, _, p⟩ := x; exact p.lt
  | dK kvs => obtain ⟨_, _, _, _, o, _, _, e, _⟩ := x; exact Heap.lt_size e
  | dT kvs => obtain ⟨_, _, _, _, o, _, _, e, _⟩ := x; exact Heap.lt_size e
  | set S n => obtain ⟨o, _, _, _, e, _⟩ := x; exact Heap.lt_size e
  | ins C dx fs => obtain ⟨_, _, _, e, _⟩ := x; exact Heap.lt_size e
  | own y => obtain ⟨_, e⟩ := x; exact Heap.lt_size e
  | xd fs => obtain ⟨_, ⟨_, _, _, e, _⟩, _⟩ := x; exact Heap.lt_size e
  | rng lo hi => obtain ⟨_, _, _, e⟩ := x; exact Heap.lt_size e
  | frz ob u => obtain ⟨e, _⟩ := x; exact Heap.lt_size e
  | tbl ps => exact Heap.lt_size (show h.get? a = some _ from x)
  | met f y => exact Heap.lt_size (show h.get? a = some _ from x)
  | ext φ => obtain ⟨_, ⟨_, e⟩, _⟩ := x; exact Heap.lt_size e
theorem Paired.mapP {α β : Type} {F G : α → β → Prop} : ∀ {l₁ : List α} {l₂ : List β}, Paired F l₁ l₂ → (∀ a b, F a b → G a b) → Paired G l₁ l₂
  | _, _, .nil, _ => .nil
  | _, _, .cons r t, f => .cons (f _ _ r) (Paired.mapP t f)
/-- what an object's description leans on: its own object, its own dict, the tuples -/
theorem ObjOk.stay (x : ObjOk P w H h a o) (k : ∀ b u, (b = a ∨ H b = some (.own a)) → h.get? b = some u → h'.get? b = some u)
    (ho : ∀ b, H b = some (.own a) → H' b = some (.own a)) (ht : ∀ b xs, H b = some (.tup xs) → H' b = some (.tup xs)) : ObjOk P w H' h' a o := by
  induction o with
  | lst xs => obtain ⟨z, its, n, r, e⟩ := x; exact ⟨z, its, n, r, k _ _ (.inl rfl) e⟩
  | tup xs => obtain ⟨z, its, r, ob, e, c⟩ := x; exact ⟨z, its, r, ob, k _ _ (.inl rfl) e, c⟩
  | dK kvs => obtain ⟨z, y, vs, r, ob, es, ep, e, c⟩ := x; exact ⟨z, y, vs, r, ob, es, ep, k _ _ (.inl rfl) e, c⟩
  | dT kvs =>
    obtain ⟨z, y, xs, r, ob, es, ep, e, c⟩ := x
    exact ⟨z, y, xs, Paired.mapP r fun p q z => ⟨z.1, ht _ _ z.2.1, z.2.2⟩, ob, es, ep, k _ _ (.inl rfl) e, c⟩
  | set S n => obtain ⟨ob, es, ep, t, e, c⟩ := x; exact ⟨ob, es, ep, t, k _ _ (.inl rfl) e, c⟩
  | ins C dx fs =>
    obtain ⟨d, z, ne, e, mA, ⟨od, es, ep, e2, c⟩, r⟩ := x
    exact ⟨ho _ d, z, ne, k _ _ (.inl rfl) e, mA, ⟨od, es, ep, k _ _ (.inr d) e2, c⟩, r⟩
  | own y => obtain ⟨ob, e⟩ := x; exact ⟨ob, k _ _ (.inl rfl) e⟩
  | xd fs => obtain ⟨mA, ⟨od, es, ep, e, c⟩, r⟩ := x; exact ⟨mA, ⟨od, es, ep, k _ _ (.inl rfl) e, c⟩, r⟩
  | rng lo hi => obtain ⟨t, u, v, e⟩ := x; exact ⟨t, u, v, k _ _ (.inl rfl) e⟩
  | frz ob u ih => obtain ⟨e, q⟩ := x; exact ⟨k _ _ (.inl rfl) e, ih q⟩
  | tbl ps =>
    have e : h.get? a = some { cls := .none, data := .fields ps } := x
    show h'.get? a = some { cls := .none, data := .fields ps }
    exact k a _ (.inl rfl) e
  | met f y =>
    have e : h.get? a = some (PySem.W.methodObj (.ref f) (.ref y)) := x
    show h'.get? a = some (PySem.W.methodObj (.ref f) (.ref y))
    exact k a _ (.inl rfl) e
  | ext φ => obtain ⟨p, ⟨o, e⟩, st⟩ := x; exact ⟨st _ _ p fun o q => k _ _ (.inl rfl) q, ⟨o, k _ _ (.inl rfl) e⟩, st⟩
theorem HOk.lt (x : HOk P w H h) (e : H a = some o) : a < h.objs.size := (x a o e).lt
theorem HOk.fresh (x : HOk P w H h) (e : h.objs.size ≤ a) : H a = none := by
  cases q : H a with
  | none => rfl
  | some u => exact absurd (Nat.lt_of_lt_of_le (x.lt q) e) (Nat.lt_irrefl _)
/-- every object of the heap is kept -/
theorem HOk.kept (x : HOk P w H h) (k : ∀ b u, h.get? b = some u → h'.get? b = some u) : HOk P w H h' := fun a o e =>
  (x a o e).stay (fun b u _ q => k b u q) (fun _ q => q) fun _ _ q => q
/-- a new object is laid and tracked -/
theorem HOk.laid (x : HOk P w H h) (k : ∀ b u, h.get? b = some u → h'.get? b = some u) (hp : h.objs.size ≤ a) (new : ObjOk P w (upd H a o) h' a o) : HOk P w (upd H a o) h' := fun b u e => by
  have hn := x.fresh hp
  by_cases hb : b = a
  · subst hb; rw [upd_same] at e; cases e; exact new
  · rw [upd_ne hb] at e
    exact (x b u e).stay (fun c v _ q => k c v q) (fun c q => by rw [upd_ne (ne_of_none q hn)]; exact q) fun c xs q => by rw [upd_ne (ne_of_none q hn)]; exact q
end

/-- what may be read as u: it is u, or a known u -/
def Rd (H : Hp) (a : Addr) (u : HO) : Prop := H a = some u ∨ ∃ o, H a = some (.frz o u)
theorem Rd.ok {P : Program} {w : World} {H : Hp} {h : Heap} {a : Addr} {u : HO} (r : Rd H a u) (x : HOk P w H h) : ObjOk P w H h a u := by
  rcases r with r | ⟨o, r⟩
  · exact x a u r
  · obtain ⟨_, q⟩ := x a _ r
    exact q
/-- what may be written -/
def Mut : Option HO → Prop
  | some (.lst _) => True
  | some (.dK _) => True
  | some (.dT _) => True
  | some (.set _ _) => True
  | some (.ins _ _ _) => True
  | some (.ext _) => True
  | _ => False
section
variable {P : Program} {w : World} {H : Hp} {h h' : Heap} {x e : Addr} {o' : HO}
/-- the object at e is changed: x itself, or the dict of the instance x -/
theorem HOk.write (ok : HOk P w H h) (mu : Mut (H x)) (he : e = x ∨ H e = some (.own x)) (k : ∀ b u, b ≠ e → h.get? b = some u → h'.get? b = some u) (heo : ∃ u, h'.get? e = some u)
    (new : ObjOk P w (upd H x o') h' x o') : HOk P w (upd H x o') h' := fun b u q => by
  have nown : ∀ c y, H c = some (.own y) → c ≠ x := fun c y r z => by subst z; rw [r] at mu; exact mu
  have ntup : ∀ c xs, H c = some (.tup xs) → c ≠ x := fun c xs r z => by subst z; rw [r] at mu; exact mu
  by_cases hb : b = x
  · subst hb; rw [upd_same] at q; cases q; exact new
  · rw [upd_ne hb] at q
    by_cases hbe : b = e
    · have q' : H b = some (.own x) := by
        rcases he with z | z
        · exact absurd (hbe.trans z) hb
        · rw [hbe]; exact z
      rw [q] at q'; cases q'
      obtain ⟨v, hv⟩ := heo
      exact ⟨v, by rw [hbe]; exact hv⟩
    · refine (ok b u q).stay (fun c v hc r => k c v ?_ r) (fun c r => by rw [upd_ne (nown c b r)]; exact r) fun c xs r => by rw [upd_ne (ntup c xs r)]; exact r
      rcases hc with rfl | hc
      · exact hbe
      · rintro rfl
        rcases he with z | z
        · exact nown c b hc z
        · rw [hc] at z; cases z; exact hb rfl
end

/-! ### kept unless tracked; of the frames at fs (the callers') the slots may change (an exception that passes writes there); of the records at ex (iterators) nothing is said -/
structure Un (fs ex : List Addr) (H H' : Hp) (h h' : Heap) : Prop where
  keep : ∀ b o, h.get? b = some o → H b = none → b ∉ fs → b ∉ ex → h'.get? b = some o
  slot : ∀ b o, h.get? b = some o → H b = none → b ∈ fs → b ∉ ex → ∃ sl, h'.get? b = some { o with slots := sl }
  free : ∀ b o, h.get? b = some o → H b = none → b ∉ ex → H' b = none
  there : ∀ b o, h.get? b = some o → b ∉ ex → ∃ o', h'.get? b = some o'
  tups : ∀ b xs, H b = some (.tup xs) → H' b = some (.tup xs)
  frzs : ∀ b o u, H b = some (.frz o u) → H' b = some (.frz o u)
  tbls : ∀ b ps, H b = some (.tbl ps) → ∃ more, H' b = some (.tbl (ps ++ more))
section
variable {fs fs' ex ex' : List Addr} {H H1 H2 : Hp} {h h1 h2 h' : Heap} {a x e : Addr} {o : HO}
theorem Un.any (u : Un fs ex H H1 h h1) {b : Addr} {ob : Obj} (q : h.get? b = some ob) (n : H b = none) (hx : b ∉ ex) : ∃ sl, h1.get? b = some { ob with slots := sl } := by
  by_cases hb : b ∈ fs
  · exact u.slot b ob q n hb hx
  · exact ⟨ob.slots, u.keep b ob q n hb hx⟩
theorem Un.kept (k : ∀ b u, h.get? b = some u → h'.get? b = some u) : Un fs ex H H h h' :=
  ⟨fun b ob q _ _ _ => k b ob q, fun b ob q _ _ _ => ⟨ob.slots, k b ob q⟩, fun _ _ _ n _ => n, fun b ob q _ => ⟨ob, k b ob q⟩, fun _ _ q => q, fun _ _ _ q => q, fun _ ps q => ⟨#[], by rw [q]; simp⟩⟩
theorem Un.refl : Un fs ex H H h h := Un.kept fun _ _ q => q
theorem Un.laid (k : ∀ b u, h.get? b = some u → h'.get? b = some u) (hp : h.objs.size ≤ a) (hn : H a = none) : Un fs ex H (upd H a o) h h' where
  keep := fun b u q _ _ _ => k b u q
  slot := fun b u q _ _ _ => ⟨u.slots, k b u q⟩
  free := fun b u q n _ => by rw [upd_ne (Nat.ne_of_lt (Nat.lt_of_lt_of_le (Heap.lt_size q) hp))]; exact n
  there := fun b u q _ => ⟨u, k b u q⟩
  tups := fun b xs q => by rw [upd_ne (ne_of_none q hn)]; exact q
  frzs := fun b u xs q => by rw [upd_ne (ne_of_none q hn)]; exact q
  tbls := fun b ps q => ⟨#[], by rw [upd_ne (ne_of_none q hn), q]; simp⟩
theorem Un.write (mu : Mut (H x)) (he : e = x ∨ H e = some (.own x)) (k : ∀ b u, b ≠ e → h.get? b = some u → h'.get? b = some u) (heo : ∃ u, h'.get? e = some u) : Un fs ex H (upd H x o) h h' := by
  have hx : ∀ b, H b = none → b ≠ x := fun b n z => by subst z; rw [n] at mu; exact mu
  have hb : ∀ b, H b = none → b ≠ e := fun b n z => by
    subst z
    rcases he with r | r
    · exact hx b n r
    · rw [n] at r; cases r
  have hm : ∀ b u, H b = some u → ¬ Mut (some u) → b ≠ x := fun b u q nm z => by subst z; rw [q] at mu; exact nm mu
  refine ⟨fun b u q n _ _ => k b u (hb b n) q, fun b u q n _ _ => ⟨u.slots, k b u (hb b n) q⟩, fun b u q n _ => by rw [upd_ne (hx b n)]; exact n, fun b u q _ => ?_,
    fun b xs q => by rw [upd_ne (hm b _ q fun z => z)]; exact q, fun b u xs q => by rw [upd_ne (hm b _ q fun z => z)]; exact q, fun b ps q => ⟨#[], by rw [upd_ne (hm b _ q fun z => z), q]; simp⟩⟩
  by_cases hbe : b = e
  · subst hbe; exact heo
  · exact ⟨u, k b u hbe q⟩
end

/-! ### the heap without what is tracked -/
def trk (h : Heap) (H : Hp) : List Addr := (List.range h.objs.size).filter fun a => (H a).isSome
def hidT (h : Heap) (H : Hp) : Heap := PySem.W.hideAll h (trk h H)
theorem hidT_size (h : Heap) (H : Hp) : (hidT h H).objs.size = h.objs.size := PySem.W.hideAll_size _ _
theorem hidT_get {h : Heap} {H : Hp} {b : Addr} {o : Obj} (e : h.get? b = some o) (n : H b = none) : (hidT h H).get? b = some o :=
  PySem.W.hideAll_get _ e fun hm => by
    have q : (H b).isSome = true := (List.mem_filter.mp hm).2
    rw [n] at q; simp at q
theorem of_hidT {h : Heap} {H : Hp} {b : Addr} {o : Obj} (e : (hidT h H).get? b = some o) : h.get? b = some o ∧ H b = none := by
  have e' : h.get? b = some o := PySem.W.of_hideAll (trk h H) e
  refine ⟨e', ?_⟩
  cases q : H b with
  | none => rfl
  | some x =>
    have hm : b ∈ trk h H := List.mem_filter.mpr ⟨List.mem_range.mpr (Heap.lt_size e'), by simp [q]⟩
    have z : (hidT h H).get? b = none := PySem.W.hideAll_none (trk h H) hm
    rw [z] at e; cases e

/-! ### OpenK's ledger, filled with every new object but one -/
def allNews (g h : Heap) (L : Addr) : List (Addr × Obj) := (List.range h.objs.size).filterMap fun a => if a = L ∨ (g.get? a).isSome = true then none else (h.get? a).map fun o => (a, o)
def rest (g h : Heap) (L d : Addr) : List (Addr × Obj) := (allNews g h L).filter fun p => decide (p.1 ≠ d)
end L2

namespace L2
open PySem PySem.Spec PyProof.Rows

/-- the module's facts, over the base: the heap at the law's entry without what is tracked there -/
structure Mod (K : PySem.W.Frag) (mg : Str → Option Value) (base : Heap) : Prop where
  kin : K.In base
  glob : base.Ns mainGlobals mg
  blt : ∃ mb, base.Ns builtinsNs mb ∧ ∀ x : Str, x ≠ "__name__" → mb x = bootBuiltins x
  nolimit : base.NoLimit

/-- the context: a def's body (or a comprehension's block) running. base: fixed through the whole law; s₀, H₀: the entry; outer: the frames whose slots others may change (a def's callers); stack: all frames that run;
   ex: iterators that were made ahead of the entry and are walked here (a comprehension's); fn: the names whose cells were made at the entry (a def: all; a comprehension's block: its own); calm: not within an except suite; pn: pins that every state bears; xe: what is wanted of an exception that leaves the code -/
structure Cx where
  prog : Program
  w : World
  K : PySem.W.Frag
  mg : Str → Option Value
  base : Heap
  A : Around
  N : List Str
  s₀ : Shared
  H₀ : Hp
  env : Env
  outer : List Env
  stack : List Env
  ex : List Addr
  fn : Str → Bool
  calm : Bool
  pn : List (Addr × Obj)
  xe : Value → Shared → Prop
/-- the callers' frames -/
def frs (l : List Env) : List Addr := l.filterMap (·.frame)
abbrev Cx.fs (X : Cx) : List Addr := frs X.outer

def Vis (sc : Scope) (x : Str) : Prop := sc.names.lookup x = some .local ∨ sc.names.lookup x = some .cell ∨ sc.names.lookup x = some .free
def Loc (sc : Scope) (x : Str) : Prop := sc.names.lookup x = some .local ∨ sc.names.lookup x = some .cell
def Look (env : Env) (h : Heap) (m : Str → Option Value) (x : Str) (u : Value) : Prop :=
  (env.kindOf x = some .local ∧ m x = some u) ∨ ((env.kindOf x = some .cell ∨ env.kindOf x = some .free) ∧ ∃ c, env.cells.lookup x = some c ∧ h.IsCell c (some u))

structure Cx.Ok (X : Cx) : Prop where
  mod : Mod X.K X.mg X.base
  kind : X.env.scope.kind = .function
  glob : X.env.globals = mainGlobals
  blt : X.env.builtins = builtinsNs
  above : X.s₀.heap.objs.size ≤ X.env.locals
  inj : ∀ x y c, X.env.cells.lookup x = some c → X.env.cells.lookup y = some c → x = y
  has : ∀ x, (X.env.kindOf x = some .cell ∨ X.env.kindOf x = some .free) → ∃ c, X.env.cells.lookup x = some c
  cab : ∀ x c, X.fn x = true → X.env.cells.lookup x = some c → X.s₀.heap.objs.size ≤ c
  hd : X.calm = true → X.A.handled = none
  frames : X.A.frames = some X.stack
  stk : X.stack = X.outer ∨ (X.stack = X.env :: X.outer ∧ X.env.frame = some X.env.locals)
  exf : ∀ b ∈ X.ex, b ≠ X.env.locals ∧ ∀ x c, X.env.cells.lookup x = some c → c ≠ b
  bs : ∀ b o, X.base.get? b = some o → X.s₀.heap.get? b = some o ∧ X.H₀ b = none
  bsz : X.base.objs.size ≤ X.s₀.heap.objs.size
  noex : ∀ b o, X.base.get? b = some o → b ∉ X.ex
  exfs : ∀ b ∈ X.ex, b ∉ X.fs
  funs : X.s₀.heap.FunFrames X.base X.outer
  frf : ∀ b ∈ X.fs, X.H₀ b = none

structure Inv (X : Cx) (pins : List (Addr × Obj)) (σ : List (Option V)) (H : Hp) (s : Shared) : Prop where
  ok : X.Ok
  os : s.os = X.s₀.os
  bare : AllBare s.gens
  base : Un X.fs X.ex X.H₀ H X.s₀.heap s.heap
  loc : ∃ m, s.heap.Ns X.env.locals m ∧ ∀ (i : Nat) (x : Str) (v : V), X.N[i]? = some x → σ[i]? = some (some v) → Vis X.env.scope x → ∃ u, RelV v u ∧ Look X.env s.heap m x u
  cell : ∀ x c, X.env.cells.lookup x = some c → ∃ v, s.heap.IsCell c v
  free : H X.env.locals = none
  freeC : ∀ x c, X.env.cells.lookup x = some c → H c = none
  pin : ∀ p ∈ X.pn ++ pins, s.heap.get? p.1 = some p.2 ∧ H p.1 = none ∧ p.1 ≠ X.env.locals ∧ p.1 ∉ X.fs ∧ ∀ v, p.2.data ≠ .cell v
  hok : HOk X.prog X.w H s.heap
  len : σ.length = X.N.length

section
variable {X : Cx} {pins : List (Addr × Obj)} {σ : List (Option V)} {H H' : Hp} {s : Shared} {h' : Heap}

theorem Cx.Ok.nofr (ok : X.Ok) {b : Addr} {o : Obj} (e : X.base.get? b = some o) : b ∉ X.fs := fun hb => by
  have := (ok.funs.mem hb).1
  rw [e] at this; cases this
theorem Inv.bs (I : Inv X pins σ H s) : ∀ b o, X.base.get? b = some o → s.heap.get? b = some o ∧ H b = none := fun b o e =>
  ⟨I.base.keep b o (I.ok.bs b o e).1 (I.ok.bs b o e).2 (I.ok.nofr e) (I.ok.noex b o e), I.base.free b o (I.ok.bs b o e).1 (I.ok.bs b o e).2 (I.ok.noex b o e)⟩
theorem Inv.bk (I : Inv X pins σ H s) : ∀ b o, X.base.get? b = some o → s.heap.get? b = some o := fun b o e => (I.bs b o e).1
theorem Inv.mod (I : Inv X pins σ H s) : Mod X.K X.mg X.base := I.ok.mod
theorem Inv.kIn (I : Inv X pins σ H s) : X.K.In s.heap := I.ok.mod.kin.keeps I.bk
theorem Inv.lt (I : Inv X pins σ H s) : X.env.locals < s.heap.objs.size := let ⟨_, hn, _⟩ := I.loc; hn.lt
theorem Inv.sz (I : Inv X pins σ H s) : X.s₀.heap.objs.size ≤ s.heap.objs.size := Nat.le_trans I.ok.above (Nat.le_of_lt I.lt)
theorem Inv.nofs (I : Inv X pins σ H s) {a : Addr} (h : s.heap.objs.size ≤ a) : a ∉ X.fs := fun hb => by
  obtain ⟨_, o, ho, _⟩ := I.ok.funs.mem hb
  exact absurd (Nat.lt_of_lt_of_le (Heap.lt_size ho) (Nat.le_trans I.sz h)) (Nat.lt_irrefl _)
theorem Inv.cne (I : Inv X pins σ H s) : ∀ x c, X.env.cells.lookup x = some c → c ≠ X.env.locals := fun x c e z => by
  obtain ⟨v, o, ho, hd⟩ := I.cell x c e
  obtain ⟨m, ⟨o', es, ep, ho', hd', _⟩, _⟩ := I.loc
  rw [z, ho'] at ho; cases ho; rw [hd'] at hd; cases hd
theorem Inv.funs (I : Inv X pins σ H s) : s.heap.FunFrames X.base X.outer := by
  have all : ∀ (l : List Env), (∀ b ∈ frs l, b ∈ X.fs) → X.s₀.heap.FunFrames X.base l → s.heap.FunFrames X.base l := by
    intro l
    induction l with
    | nil => intro _ _; trivial
    | cons env r ih =>
      intro hs hl
      obtain ⟨hk, ⟨L, o, hf, hn, ho, hd⟩, hr⟩ := hl
      have hL : L ∈ X.fs := hs L (by unfold frs; rw [List.filterMap_cons, hf]; exact List.mem_cons_self)
      obtain ⟨sl, e⟩ := I.base.slot L o ho (I.ok.frf L hL) hL fun z => I.ok.exfs L z hL
      exact ⟨hk, ⟨L, _, hf, hn, e, hd⟩, ih (fun b hb => hs b (by unfold frs; rw [List.filterMap_cons, hf]; exact List.mem_cons_of_mem _ hb)) hr⟩
  exact all X.outer (fun _ hb => hb) I.ok.funs

/-- the frames that run, for a call -/
theorem Inv.stack (I : Inv X pins σ H s) : s.heap.FunFrames X.base X.stack := by
  rcases I.ok.stk with e | ⟨e, hf⟩
  · rw [e]; exact I.funs
  · rw [e]
    obtain ⟨m, hn, _⟩ := I.loc
    refine .cons (by rw [I.ok.kind]; decide) hf hn ?_ I.funs
    exact Heap.get?_none_of_le (Nat.le_trans I.ok.bsz I.ok.above)
theorem Inv.stkSub (I : Inv X pins σ H s) : ∀ b ∈ frs X.stack, b ∈ X.env.locals :: X.fs := fun b hb => by
  rcases I.ok.stk with e | ⟨e, hf⟩
  · rw [e] at hb; exact List.mem_cons_of_mem _ hb
  · rw [e] at hb
    unfold frs at hb
    rw [List.filterMap_cons, hf] at hb
    exact hb
theorem Inv.stkFree (I : Inv X pins σ H s) : ∀ b ∈ frs X.stack, H b = none := fun b hb => by
  rcases List.mem_cons.mp (I.stkSub b hb) with e | hb
  · rw [e]; exact I.free
  · obtain ⟨_, o, ho, _⟩ := I.ok.funs.mem hb
    exact I.base.free b o ho (I.ok.frf b hb) fun z => I.ok.exfs b z hb

/-- THE STEP: the untracked objects but the frame and the records at ch are kept (the callers' frames up to slots), the frame's map is kept, the new abstract heap is held -/
theorem Inv.step {g' : Array GenState} {t' : Nat} {d' : Drawn} {ch : List Addr} (I : Inv X pins σ H s)
    (hch : ∀ b ∈ ch, (b ∈ X.ex ∨ X.s₀.heap.objs.size ≤ b) ∧ b ≠ X.env.locals ∧ (∀ x c, X.env.cells.lookup x = some c → c ≠ b) ∧ ∀ p ∈ X.pn ++ pins, p.1 ≠ b)
    (keep : ∀ b o, b ≠ X.env.locals → b ∉ X.fs → b ∉ ch → s.heap.get? b = some o → H b = none → h'.get? b = some o)
    (slot : ∀ b o, b ≠ X.env.locals → b ∈ X.fs → b ∉ ch → s.heap.get? b = some o → H b = none → ∃ sl, h'.get? b = some { o with slots := sl }) (free : ∀ b o, b ∉ ch → s.heap.get? b = some o → H b = none → H' b = none)
    (there : ∀ b o, b ∉ ch → s.heap.get? b = some o → ∃ o', h'.get? b = some o')
    (tups : ∀ b xs, H b = some (.tup xs) → H' b = some (.tup xs)) (frzs : ∀ b o u, H b = some (.frz o u) → H' b = some (.frz o u)) (tbls : ∀ b ps, H b = some (.tbl ps) → ∃ more, H' b = some (.tbl (ps ++ more)))
    (ns : ∀ m, s.heap.Ns X.env.locals m → h'.Ns X.env.locals m) (hok : HOk X.prog X.w H' h') (hg : AllBare g') :
    Inv X pins σ H' { s with heap := h', gens := g', drawn := d', toks := t' } := by
  have neL : ∀ b o, X.s₀.heap.get? b = some o → b ≠ X.env.locals := fun b o e => Nat.ne_of_lt (Nat.lt_of_lt_of_le (Heap.lt_size e) I.ok.above)
  have neC : ∀ b o, X.s₀.heap.get? b = some o → b ∉ X.ex → b ∉ ch := fun b o e hx hb => by
    rcases (hch b hb).1 with z | z
    · exact hx z
    · exact absurd (Nat.lt_of_lt_of_le (Heap.lt_size e) z) (Nat.lt_irrefl _)
  have cellK : ∀ x c, X.env.cells.lookup x = some c → ∀ v, s.heap.IsCell c v → h'.IsCell c v := fun x c e v ⟨o, ho, hd⟩ => by
    have nch : c ∉ ch := fun z => (hch c z).2.2.1 x c e rfl
    by_cases hc : c ∈ X.fs
    · obtain ⟨sl, q⟩ := slot c o (I.cne x c e) hc nch ho (I.freeC x c e)
      exact ⟨_, q, hd⟩
    · exact ⟨o, keep c o (I.cne x c e) hc nch ho (I.freeC x c e), hd⟩
  refine ⟨I.ok, I.os, hg, ⟨fun b o e n hb hx => ?_, fun b o e n hb hx => ?_, fun b o e n hx => ?_, fun b o e hx => ?_, fun b xs e => tups b xs (I.base.tups b xs e), fun b o xs e => frzs b o xs (I.base.frzs b o xs e), fun b ps e => ?_⟩, ?_, fun x c e => ?_, ?_, fun x c e => ?_, fun p hp => ?_, hok, I.len⟩
  · exact keep b o (neL b o e) hb (neC b o e hx) (I.base.keep b o e n hb hx) (I.base.free b o e n hx)
  · obtain ⟨sl, e1⟩ := I.base.slot b o e n hb hx
    obtain ⟨sl', e2⟩ := slot b _ (neL b o e) hb (neC b o e hx) e1 (I.base.free b o e n hx)
    exact ⟨sl', e2⟩
  · obtain ⟨o', e1⟩ := I.base.there b o e hx
    exact free b o' (neC b o e hx) e1 (I.base.free b o e n hx)
  · obtain ⟨o', e1⟩ := I.base.there b o e hx
    exact there b o' (neC b o e hx) e1
  · obtain ⟨m1, e1⟩ := I.base.tbls b ps e
    obtain ⟨m2, e2⟩ := tbls b _ e1
    exact ⟨m1 ++ m2, by rw [e2, Array.append_assoc]⟩
  · obtain ⟨m, hn, hl⟩ := I.loc
    refine ⟨m, ns m hn, fun i x v e1 e2 e3 => ?_⟩
    obtain ⟨u, r, l⟩ := hl i x v e1 e2 e3
    refine ⟨u, r, ?_⟩
    rcases l with l | ⟨k, c, e, z⟩
    · exact .inl l
    · exact .inr ⟨k, c, e, cellK x c e _ z⟩
  · obtain ⟨v, z⟩ := I.cell x c e
    exact ⟨v, cellK x c e v z⟩
  · obtain ⟨m, ⟨o, _, _, ho, _⟩, _⟩ := I.loc
    exact free _ o (fun z => (hch _ z).2.1 rfl) ho I.free
  · obtain ⟨v, o, ho, hd⟩ := I.cell x c e
    exact free c o (fun z => (hch c z).2.2.1 x c e rfl) ho (I.freeC x c e)
  · obtain ⟨e, n, ne, nf, d⟩ := I.pin p hp
    have nch : p.1 ∉ ch := fun z => (hch p.1 z).2.2.2 p hp rfl
    exact ⟨keep p.1 p.2 ne nf nch e n, free p.1 p.2 nch e n, ne, nf, d⟩
/-- .. where the frame's own object is kept too -/
theorem Inv.un {t' : Nat} (I : Inv X pins σ H s) (u : Un X.fs [] H H' s.heap h') (hok : HOk X.prog X.w H' h') : Inv X pins σ H' { s with heap := h', toks := t' } := by
  obtain ⟨m, ⟨o, es, ep, ho, r⟩, _⟩ := id I.loc
  obtain ⟨sl, hL⟩ := u.any ho I.free (by simp)
  exact I.step (g' := s.gens) (d' := s.drawn) (ch := []) (fun _ z => nomatch z) (fun b o _ hb _ e n => u.keep b o e n hb (by simp)) (fun b o _ hb _ e n => u.slot b o e n hb (by simp)) (fun b o _ e n => u.free b o e n (by simp)) (fun b o _ e => u.there b o e (by simp)) u.tups u.frzs u.tbls (fun m' hm => by
    obtain ⟨o', es', ep', ho', r'⟩ := hm
    rw [ho] at ho'; cases ho'
    exact ⟨_, es', ep', hL, r'⟩) hok I.bare
/-- behind a call (or a comprehension's block): the slots of this frame may have changed too, the records at ch may have turned -/
theorem Inv.call {g' : Array GenState} {t' : Nat} {d' : Drawn} {ch : List Addr} (I : Inv X pins σ H s) (u : Un (frs X.stack) ch H H' s.heap h') (hok : HOk X.prog X.w H' h') (hg : AllBare g')
    (hch : ∀ b ∈ ch, (b ∈ X.ex ∨ X.s₀.heap.objs.size ≤ b) ∧ b ≠ X.env.locals ∧ (∀ x c, X.env.cells.lookup x = some c → c ≠ b) ∧ ∀ p ∈ X.pn ++ pins, p.1 ≠ b) :
    Inv X pins σ H' { s with heap := h', gens := g', drawn := d', toks := t' } := by
  obtain ⟨m, ⟨o, es, ep, ho, r⟩, _⟩ := id I.loc
  obtain ⟨sl, hL⟩ := u.any ho I.free fun z => (hch _ z).2.1 rfl
  exact I.step (ch := ch) hch (fun b o hL hb hc e n => u.keep b o e n (fun z => (List.mem_cons.mp (I.stkSub b z)).elim hL hb) hc) (fun b o _ _ hc e n => u.any e n hc) (fun b o hc e n => u.free b o e n hc) (fun b o hc e => u.there b o e hc) u.tups u.frzs u.tbls (fun m' hm => by
    obtain ⟨o', es', ep', ho', r'⟩ := hm
    rw [ho] at ho'; cases ho'
    exact ⟨_, es', ep', hL, r'⟩) hok hg
/-- an untracked record of ours (an iterator) has turned -/
theorem Inv.turned {t' : Nat} {it : Addr} (I : Inv X pins σ H s) (k : ∀ b o, b ≠ it → s.heap.get? b = some o → h'.get? b = some o) (hn : H it = none) (hL : it ≠ X.env.locals)
    (h1 : it ∈ X.ex ∨ X.s₀.heap.objs.size ≤ it) (h2 : ∀ x c, X.env.cells.lookup x = some c → c ≠ it) (h3 : ∀ p ∈ X.pn ++ pins, p.1 ≠ it) : Inv X pins σ H { s with heap := h', toks := t' } := by
  have nit : ∀ b u, H b = some u → b ≠ it := fun b u e z => by rw [z, hn] at e; cases e
  refine I.step (g' := s.gens) (d' := s.drawn) (ch := [it]) (fun b hb => ?_) (fun b o _ _ hc e _ => k b o (fun z => hc (by simp [z])) e) (fun b o _ _ hc e _ => ⟨o.slots, k b o (fun z => hc (by simp [z])) e⟩) (fun _ _ _ _ n => n)
    (fun b o hc e => ⟨o, k b o (fun z => hc (by simp [z])) e⟩) (fun _ _ e => e) (fun _ _ _ e => e) (fun b ps e => ⟨#[], by rw [e]; simp⟩) (fun m hm => ?_) (fun b u e => ?_) I.bare
  · have e : b = it := by simpa using hb
    subst e
    exact ⟨h1, hL, h2, h3⟩
  · obtain ⟨o, es, ep, ho, r⟩ := hm
    exact ⟨o, es, ep, k _ o (Ne.symm hL) ho, r⟩
  · refine (I.hok b u e).stay (fun c v hc q => k c v ?_ q) (fun _ q => q) fun _ _ q => q
    rcases hc with z | z
    · rw [z]; exact nit b u e
    · exact nit c _ z
theorem Inv.tok (I : Inv X pins σ H s) (t : Nat) : Inv X pins σ H { s with toks := t } := I.un (h' := s.heap) (t' := t) Un.refl I.hok
/-- all objects kept -/
theorem Inv.kept {t' : Nat} (I : Inv X pins σ H s) (k : ∀ b u, s.heap.get? b = some u → h'.get? b = some u) : Inv X pins σ H { s with heap := h', toks := t' } := I.un (Un.kept k) (I.hok.kept k)
/-- a new object laid and tracked -/
theorem Inv.laid {a : Addr} {o : HO} {t' : Nat} (I : Inv X pins σ H s) (k : ∀ b u, s.heap.get? b = some u → h'.get? b = some u) (hp : s.heap.objs.size ≤ a) (new : ObjOk X.prog X.w (upd H a o) h' a o) :
    Inv X pins σ (upd H a o) { s with heap := h', toks := t' } := I.un (Un.laid k hp (I.hok.fresh hp)) (I.hok.laid k hp new)
/-- an object written -/
theorem Inv.write {x e : Addr} {o : HO} {t' : Nat} (I : Inv X pins σ H s) (mu : Mut (H x)) (he : e = x ∨ H e = some (.own x)) (k : ∀ b u, b ≠ e → s.heap.get? b = some u → h'.get? b = some u) (heo : ∃ u, h'.get? e = some u)
    (new : ObjOk X.prog X.w (upd H x o) h' x o) : Inv X pins σ (upd H x o) { s with heap := h', toks := t' } := I.un (Un.write mu he k heo) (I.hok.write mu he k heo new)
theorem Inv.pins_of {pins' : List (Addr × Obj)} (I : Inv X pins σ H s) (h : ∀ p ∈ pins', s.heap.get? p.1 = some p.2 ∧ H p.1 = none ∧ p.1 ≠ X.env.locals ∧ p.1 ∉ X.fs ∧ ∀ v, p.2.data ≠ .cell v) : Inv X pins' σ H s :=
  ⟨I.ok, I.os, I.bare, I.base, I.loc, I.cell, I.free, I.freeC, fun p hp => (List.mem_append.mp hp).elim (fun z => I.pin p (List.mem_append_left _ z)) (h p), I.hok, I.len⟩

theorem nodup_ix {N : List Str} (hN : N.Nodup) {i j : Nat} {x : Str} (a : N[i]? = some x) (b : N[j]? = some x) : i = j := by
  obtain ⟨h1, e1⟩ := List.getElem?_eq_some_iff.mp a
  obtain ⟨h2, e2⟩ := List.getElem?_eq_some_iff.mp b
  exact (List.getElem_inj hN).mp (e1.trans e2.symm)

/-- a name is stored; what changed -/
theorem store_ok2 {M : Model} {A : Around} {E : Value → Shared → Prop} {i : Nat} {x : Str} {v : V} {u : Value} {Q : Unit → Shared → Prop} (I : Inv X pins σ H s) (hN : X.N.Nodup) (hi : X.N[i]? = some x) (hx : Loc X.env.scope x) (r : RelV v u)
    (h : ∀ s', Inv X pins (σ.set i (some v)) H s' → (∃ a, Heap.SameBut a s.heap s'.heap ∧ (a = X.env.locals ∨ X.env.cells.lookup x = some a)) → Q () s') (hf : X.fn x = true ∨ X.env.scope.names.lookup x = some .local := by first | exact .inl rfl | exact .inr rfl | assumption) : wpAny M A (storeName X.env x u) Q E s := by
  obtain ⟨m, hn, hl⟩ := id I.loc
  have hcls : (X.env.scope.kind == .class || (X.env.scope.kind == .module && X.env.locals != X.env.globals)) = false := by rw [I.ok.kind]; rfl
  have hiσ : i < σ.length := by rw [I.len]; exact (List.getElem?_eq_some_iff.mp hi).1
  have cne := I.cne
  have tracked : ∀ {a : Addr} {h' : Heap}, (∃ o, s.heap.get? a = some o ∧ H a = none) → Heap.SameBut a s.heap h' → HOk X.prog X.w H h' := fun {a h'} ha hs b ob e => by
    obtain ⟨_, _, hfree⟩ := ha
    refine (I.hok b ob e).stay (fun c w' hc q => (hs.2 c ?_).trans q) (fun _ q => q) fun _ _ q => q
    rintro rfl
    rcases hc with rfl | hc
    · rw [hfree] at e; cases e
    · rw [hfree] at hc; cases hc
  rcases hx with hk | hk
  · refine wpAny_storeName_local hk hn (fun h' hn' hs => ?_) hcls
    obtain ⟨oL, _, _, hoL, _⟩ := id hn
    refine h _ ⟨I.ok, I.os, I.bare, ⟨fun b o e n hb hx => ?_, fun b o e n hb hx => ?_, I.base.free, fun b o e hx => ?_, I.base.tups, I.base.frzs, I.base.tbls⟩, ⟨_, hn', fun j y v' e1 e2 e3 => ?_⟩, fun y c e => ?_, I.free, I.freeC, fun p hp => ?_, tracked ⟨oL, hoL, I.free⟩ hs, by simpa using I.len⟩ ⟨_, hs, .inl rfl⟩
    · exact (hs.2 b (Nat.ne_of_lt (Nat.lt_of_lt_of_le (Heap.lt_size e) I.ok.above))).trans (I.base.keep b o e n hb hx)
    · obtain ⟨sl, e1⟩ := I.base.slot b o e n hb hx
      exact ⟨sl, (hs.2 b (Nat.ne_of_lt (Nat.lt_of_lt_of_le (Heap.lt_size e) I.ok.above))).trans e1⟩
    · obtain ⟨o', e1⟩ := I.base.there b o e hx
      exact ⟨o', (hs.2 b (Nat.ne_of_lt (Nat.lt_of_lt_of_le (Heap.lt_size e) I.ok.above))).trans e1⟩
    · by_cases hj : j = i
      · subst hj
        rw [hi] at e1; cases e1
        rw [List.getElem?_set_self hiσ] at e2
        cases e2
        exact ⟨u, r, .inl ⟨hk, by simp⟩⟩
      · rw [List.getElem?_set_ne (Ne.symm hj)] at e2
        obtain ⟨u', r', q⟩ := hl j y v' e1 e2 e3
        refine ⟨u', r', ?_⟩
        rcases q with ⟨k, e⟩ | ⟨k, c, e, z⟩
        · refine .inl ⟨k, ?_⟩
          have : y ≠ x := fun e => hj (nodup_ix hN e1 (e ▸ hi))
          simp [this, e]
        · exact .inr ⟨k, c, e, z.sameBut hs (cne y c e)⟩
    · obtain ⟨w', z⟩ := I.cell y c e
      exact ⟨w', z.sameBut hs (cne y c e)⟩
    · obtain ⟨e, n, ne, nf, d⟩ := I.pin p hp
      exact ⟨(hs.2 p.1 ne).trans e, n, ne, nf, d⟩
  · have hfn : X.fn x = true := by
      rcases hf with z | z
      · exact z
      · rw [z] at hk; cases hk
    obtain ⟨c, hc⟩ := I.ok.has x (.inl hk)
    obtain ⟨w', z⟩ := I.cell x c hc
    refine wpAny_storeName_cell I.ok.kind hk hc z (fun h' hc' hs => ?_)
    obtain ⟨oc, hoc, hocd⟩ := id z
    refine h { s with heap := h' } ⟨I.ok, I.os, I.bare, ⟨fun b o e n hb hx => ?_, fun b o e n hb hx => ?_, I.base.free, fun b o e hx => ?_, I.base.tups, I.base.frzs, I.base.tbls⟩, ⟨m, hn.sameBut hs (Ne.symm (cne x c hc)), fun j y v' e1 e2 e3 => ?_⟩, fun y c' e => ?_, I.free, I.freeC, fun p hp => ?_, tracked ⟨oc, hoc, I.freeC x c hc⟩ hs, by simpa using I.len⟩ ⟨c, hs, .inr hc⟩
    · exact (hs.2 b (Nat.ne_of_lt (Nat.lt_of_lt_of_le (Heap.lt_size e) (I.ok.cab x c hfn hc)))).trans (I.base.keep b o e n hb hx)
    · obtain ⟨sl, e1⟩ := I.base.slot b o e n hb hx
      exact ⟨sl, (hs.2 b (Nat.ne_of_lt (Nat.lt_of_lt_of_le (Heap.lt_size e) (I.ok.cab x c hfn hc)))).trans e1⟩
    · obtain ⟨o', e1⟩ := I.base.there b o e hx
      exact ⟨o', (hs.2 b (Nat.ne_of_lt (Nat.lt_of_lt_of_le (Heap.lt_size e) (I.ok.cab x c hfn hc)))).trans e1⟩
    · by_cases hj : j = i
      · subst hj
        rw [hi] at e1; cases e1
        rw [List.getElem?_set_self hiσ] at e2
        cases e2
        exact ⟨u, r, .inr ⟨.inl hk, c, hc, hc'⟩⟩
      · rw [List.getElem?_set_ne (Ne.symm hj)] at e2
        obtain ⟨u', r', q⟩ := hl j y v' e1 e2 e3
        refine ⟨u', r', ?_⟩
        rcases q with q | ⟨k, c', e, z'⟩
        · exact .inl q
        · refine .inr ⟨k, c', e, z'.sameBut hs ?_⟩
          rintro rfl
          exact hj (nodup_ix hN e1 (I.ok.inj _ _ _ e hc ▸ hi))
    · by_cases hcc : c' = c
      · subst hcc; exact ⟨_, hc'⟩
      · obtain ⟨w2, z2⟩ := I.cell y c' e
        exact ⟨w2, z2.sameBut hs hcc⟩
    · obtain ⟨e, n, ne, nf, d⟩ := I.pin p hp
      refine ⟨(hs.2 p.1 ?_).trans e, n, ne, nf, d⟩
      intro q
      rw [q, hoc] at e
      have q' : oc = p.2 := Option.some.inj e
      exact d w' (by rw [← q']; exact hocd)
theorem store_ok {M : Model} {A : Around} {E : Value → Shared → Prop} {i : Nat} {x : Str} {v : V} {u : Value} {Q : Unit → Shared → Prop} (I : Inv X pins σ H s) (hN : X.N.Nodup) (hi : X.N[i]? = some x) (hx : Loc X.env.scope x) (r : RelV v u)
    (h : ∀ s', Inv X pins (σ.set i (some v)) H s' → Q () s') (hf : X.fn x = true ∨ X.env.scope.names.lookup x = some .local := by first | exact .inl rfl | exact .inr rfl | assumption) : wpAny M A (storeName X.env x u) Q E s :=
  store_ok2 I hN hi hx r (fun s' I' _ => h s' I') hf
/-- behind a call or a block, the state as it is -/
theorem Inv.call' {s' : Shared} {ch : List Addr} (I : Inv X pins σ H s) (ho : s'.os = s.os) (u : Un (frs X.stack) ch H H' s.heap s'.heap) (hok : HOk X.prog X.w H' s'.heap) (hg : AllBare s'.gens)
    (hch : ∀ b ∈ ch, (b ∈ X.ex ∨ X.s₀.heap.objs.size ≤ b) ∧ b ≠ X.env.locals ∧ (∀ x c, X.env.cells.lookup x = some c → c ≠ b) ∧ ∀ p ∈ X.pn ++ pins, p.1 ≠ b) : Inv X pins σ H' s' := by
  obtain ⟨h', g', d', t', o'⟩ := s'
  have e : o' = s.os := ho
  subst e
  exact I.call (g' := g') (t' := t') (d' := d') u hok hg hch
end

/-! ### the judgements -/
/-- an exception: its class, its own dict's address (where it has one), the abstract heap behind it -/
abbrev XK := Value → Option Addr → Hp → Prop
abbrev St := List (Option V)
abbrev VK := V → Hp → Prop
/-- an expression's reading; a test's; an argument list's -/
abbrev TE := St → Hp → VK → Prop
abbrev TT := St → Hp → (Bool → Hp → Prop) → Prop
abbrev TA := St → Hp → (List V → Hp → Prop) → Prop
/-- what is wanted behind a statement -/
structure Ends where
  nx : St → Hp → Prop
  rt : VK
  bk : St → Hp → Prop := fun _ _ => False
  ct : St → Hp → Prop := fun _ _ => False
abbrev TS := Ends → St → Hp → Prop

def EP (X : Cx) (pins : List (Addr × Obj)) (σ : St) (Q : VK) (u : Value) (s' : Shared) : Prop := ∃ v H', Inv X pins σ H' s' ∧ RelV v u ∧ Q v H'
def TP (X : Cx) (pins : List (Addr × Obj)) (σ : St) (Q : Bool → Hp → Prop) (b : Bool) (s' : Shared) : Prop := ∃ H', Inv X pins σ H' s' ∧ Q b H'
def AP (X : Cx) (pins : List (Addr × Obj)) (σ : St) (Q : List V → Hp → Prop) (us : List Value) (s' : Shared) : Prop := ∃ vs H', Inv X pins σ H' s' ∧ Vals vs us ∧ Q vs H'
def SP (X : Cx) (pins : List (Addr × Obj)) (D : Ends) (f : Flow) (s' : Shared) : Prop :=
  match f with
  | .next => ∃ σ' H', Inv X pins σ' H' s' ∧ D.nx σ' H'
  | .brk => ∃ σ' H', Inv X pins σ' H' s' ∧ D.bk σ' H'
  | .cont => ∃ σ' H', Inv X pins σ' H' s' ∧ D.ct σ' H'
  | .ret u => ∃ v σ' H', Inv X pins σ' H' s' ∧ RelV v u ∧ D.rt v H'

def PE (X : Cx) (e : Expr) (t : TE) : Prop :=
  ∀ (pins : List (Addr × Obj)) (s : Shared) (σ : St) (H : Hp) (Q : VK), Inv X pins σ H s → t σ H Q → wpAny (model X.prog X.w) X.A (eval e X.env) (EP X pins σ Q) X.xe s
def PT (X : Cx) (e : Expr) (t : TT) : Prop :=
  ∀ (pins : List (Addr × Obj)) (s : Shared) (σ : St) (H : Hp) (Q : Bool → Hp → Prop), Inv X pins σ H s → t σ H Q → wpAny (model X.prog X.w) X.A (isTrue e X.env (eval e X.env)) (TP X pins σ Q) X.xe s
/-- a test whatever its 'whole' is (and, or) -/
def PW (X : Cx) (e : Expr) (t : TT) : Prop :=
  ∀ (whole : Sem Value) (pins : List (Addr × Obj)) (s : Shared) (σ : St) (H : Hp) (Q : Bool → Hp → Prop), Inv X pins σ H s → t σ H Q → wpAny (model X.prog X.w) X.A (isTrue e X.env whole) (TP X pins σ Q) X.xe s
theorem PW.pt {X : Cx} {e : Expr} {t : TT} (h : PW X e t) : PT X e t := h _
/-- an argument list (no star), from the left -/
def PA (X : Cx) (es : List Expr) (t : TA) : Prop :=
  ∀ (pos : Pos) (pins : List (Addr × Obj)) (s : Shared) (σ : St) (H : Hp) (Q : List V → Hp → Prop), Inv X pins σ H s → t σ H Q → wpAny (model X.prog X.w) X.A (spliced (backTo pos (starEach es X.env))) (AP X pins σ Q) X.xe s
def PS (X : Cx) (st : Stmt) (t : TS) : Prop :=
  ∀ (pins : List (Addr × Obj)) (s : Shared) (σ : St) (H : Hp) (D : Ends), Inv X pins σ H s → t D σ H → wpAny (model X.prog X.w) X.A (exec st X.env) (SP X pins D) X.xe s
def PSs (X : Cx) (st : List Stmt) (t : TS) : Prop :=
  ∀ (pins : List (Addr × Obj)) (s : Shared) (σ : St) (H : Hp) (D : Ends), Inv X pins σ H s → t D σ H → wpAny (model X.prog X.w) X.A (execs st X.env) (SP X pins D) X.xe s
/-- weaken the end -/
theorem thn {α : Type} {t : Sem α} {Q Q' : α → Shared → Prop} {M : Model} {A : Around} {E : Value → Shared → Prop} {s : Shared} (h : wpAny M A t Q E s) (hQ : ∀ a s, Q a s → Q' a s) : wpAny M A t Q' E s := wpAny_mono h hQ fun _ _ x => x
end L2

namespace L2
open PySem PySem.Spec PyProof.Rows
section
variable {X : Cx}


/-! ### names and constants -/
def tVar (i : Nat) : TE := fun σ H Q => ∃ v, σ[i]? = some (some v) ∧ Q v H
def tC (v : V) : TE := fun _ H Q => Q v H
theorem pe_var {i : Nat} {x : Str} {pos : Pos} (hN : X.N[i]? = some x) (hv : Vis X.env.scope x) (hd : (x == ("__debug__" : Str)) = false := by decide) (hcd : (x == ("__classdict__" : Str)) = false := by decide) : PE X (.Name x pos) (tVar i) := by
  intro pins s σ H Q I h
  obtain ⟨v, e, h⟩ := h
  obtain ⟨m, hn, hl⟩ := I.loc
  obtain ⟨u, r, l⟩ := hl i x v hN e hv
  have fin : EP X pins σ Q u s := ⟨v, H, I, r, h⟩
  rcases l with ⟨hk, hm⟩ | ⟨hk, c, hc, hcell⟩
  · exact wpAny_Name (wpAny_loadName_local I.ok.kind hk hn hm fin) hd
  · rcases hk with hk | hk
    · exact wpAny_Name (wpAny_loadName_cell I.ok.kind hk hc hcell fin) hd
    · exact wpAny_Name (wpAny_loadName_free I.ok.kind hk hc hcell fin hcd) hd
theorem pe_int {i j pos} : PE X (.Constant (.int i) j pos) (tC (.int i)) := fun _ _ _ H _ I h => wpAny_Constant_int ⟨.int i, H, I.tok _, ⟨_, rfl⟩, h⟩
theorem pe_bl {b j pos} : PE X (.Constant (.bool b) j pos) (tC (.bl b)) := fun _ _ _ H _ I h => Constant_bool ⟨.bl b, H, I, rfl, h⟩
theorem pe_non {j pos} : PE X (.Constant .none j pos) (tC .non) := fun _ _ _ H _ I h => Constant_none ⟨.non, H, I, rfl, h⟩
theorem pe_str {x j pos} : PE X (.Constant (.str x) j pos) (tC (.str x)) := fun _ _ _ H _ I h => Calls.Constant_str ⟨.str x, H, I.tok _, ⟨_, rfl⟩, h⟩

/-- a global name of the def -/
def Gl (X : Cx) (x : Str) : Prop := X.env.kindOf x = some .globalImplicit
theorem ld_glob {E : Value → Shared → Prop} {pins : List (Addr × Obj)} {s : Shared} {σ : St} {H : Hp} {x : Str} {u : Value} {pos : Pos} {Q : Value → Shared → Prop} (I : Inv X pins σ H s) (hg : Gl X x) (hm : X.mg x = some u) (h : Q u s)
    (hd : (x == ("__debug__" : Str)) = false := by decide) : wpAny (model X.prog X.w) X.A (eval (.Name x pos) X.env) Q E s :=
  Calls.Name_function_global I.ok.kind hg (Calls.loadGlobal_global (by rw [I.ok.glob]; exact I.mod.glob.keeps I.bk) hm h) hd
theorem ld_blt {E : Value → Shared → Prop} {pins : List (Addr × Obj)} {s : Shared} {σ : St} {H : Hp} {x : Str} {u : Value} {pos : Pos} {Q : Value → Shared → Prop} (I : Inv X pins σ H s) (hg : Gl X x) (hm : X.mg x = none) (hv : bootBuiltins x = some u) (h : Q u s)
    (hn : x ≠ "__name__" := by decide) (hd : (x == ("__debug__" : Str)) = false := by decide) : wpAny (model X.prog X.w) X.A (eval (.Name x pos) X.env) Q E s := by
  obtain ⟨mb, h1, h2⟩ := I.mod.blt
  exact Calls.Name_function_global I.ok.kind hg (Calls.loadGlobal_builtin (by rw [I.ok.glob]; exact I.mod.glob.keeps I.bk) hm (by rw [I.ok.blt]; exact h1.keeps I.bk) ((h2 x hn).trans hv) h) hd
/-- a module's constant, a class, a function, as a value -/
theorem pe_glob {x : Str} {v : V} {u : Value} {pos : Pos} (hg : Gl X x) (hm : X.mg x = some u) (r : RelV v u) (hd : (x == ("__debug__" : Str)) = false := by decide) : PE X (.Name x pos) (tC v) :=
  fun _ _ _ H _ I h => ld_glob I hg hm ⟨v, H, I, r, h⟩ hd
theorem pe_bltn {x : Str} {v : V} {u : Value} {pos : Pos} (hg : Gl X x) (hm : X.mg x = none) (hv : bootBuiltins x = some u) (r : RelV v u) (hn : x ≠ "__name__" := by decide) (hd : (x == ("__debug__" : Str)) = false := by decide) : PE X (.Name x pos) (tC v) :=
  fun _ _ _ H _ I h => ld_blt I hg hm hv ⟨v, H, I, r, h⟩ hn hd

/-! ### arithmetic -/
/-- two ints -/
def t2I (ta tb : TE) (k : Int → Int → Hp → Prop) : St → Hp → Prop := fun σ H => ta σ H fun x H1 => tb σ H1 fun y H2 => ∃ i j, x = .int i ∧ y = .int j ∧ k i j H2
def tAdd (ta tb : TE) : TE := fun σ H Q => t2I ta tb (fun i j H2 => Q (.int (i + j)) H2) σ H
def tSub (ta tb : TE) : TE := fun σ H Q => t2I ta tb (fun i j H2 => Q (.int (i - j)) H2) σ H
/-- the left factor below 2^64 -/
def tMul (ta tb : TE) : TE := fun σ H Q => t2I ta tb (fun i j H2 => (-(2 ^ 64) < i ∧ i < 2 ^ 64) ∧ Q (.int (i * j)) H2) σ H
variable {a b : Expr} {ta tb : TE} {pos : Pos}

/-! ### comparisons -/
def PC (X : Cx) (op : CmpOp) (a b : Expr) (t : TE) : Prop :=
  ∀ (pins : List (Addr × Obj)) (s : Shared) (σ : St) (H : Hp) (Q : VK), Inv X pins σ H s → t σ H Q →
    wpAny (model X.prog X.w) X.A (eval a X.env) (fun v s₁ => wpAny (model X.prog X.w) X.A (eval b X.env) (fun u s₂ => wpAny (model X.prog X.w) X.A (compareOp op v u) (EP X pins σ Q) X.xe s₂) X.xe s₁) X.xe s
theorem nobehind (b : Expr) {op : CmpOp} (h : op ≠ .In) (h2 : op ≠ .NotIn) : behindInMarks op b = false := by
  have e1 : (op == CmpOp.In) = false := by cases op <;> first | rfl | exact absurd rfl h
  have e2 : (op == CmpOp.NotIn) = false := by cases op <;> first | rfl | exact absurd rfl h2
  cases b <;> simp [behindInMarks, e1, e2]
def tCmp (p : Int → Int → Bool) (ta tb : TE) : TE := fun σ H Q => t2I ta tb (fun i j H2 => Q (.bl (p i j)) H2) σ H
abbrev tLt : TE → TE → TE := tCmp fun i j => decide (i < j)
abbrev tLe : TE → TE → TE := tCmp fun i j => decide (i ≤ j)
abbrev tGt : TE → TE → TE := tCmp fun i j => decide (j < i)
abbrev tGe : TE → TE → TE := tCmp fun i j => decide (j ≤ i)
abbrev tEqI : TE → TE → TE := tCmp fun i j => decide (i = j)
abbrev tNeI : TE → TE → TE := tCmp fun i j => !decide (i = j)
/-- is None -/
def tIsN (ta : TE) : TE := fun σ H Q => ta σ H fun x H1 => Q (.bl (decide (x = .non))) H1
def tNotN (ta : TE) : TE := fun σ H Q => ta σ H fun x H1 => Q (.bl (!decide (x = .non))) H1
theorem RelV.none_iff {x : V} {v : Value} (r : RelV x v) : (v == Value.none) = decide (x = .non) := by
  cases x with
  | non => cases r; rfl
  | bl _ => cases r; rfl
  | int _ => obtain ⟨t, rfl⟩ := r; rfl
  | str _ => obtain ⟨t, rfl⟩ := r; rfl
  | byt _ => obtain ⟨t, rfl⟩ := r; rfl
  | flt _ => obtain ⟨t, rfl⟩ := r; rfl
  | ref _ => cases r; rfl
  | ty _ => cases r; rfl
theorem pc_isN {j pos'} (ha : PE X a ta) : PC X .Is a (.Constant .none j pos') (tIsN ta) := by
  intro pins s σ H Q I h
  refine thn (ha pins s σ H _ I h) fun v s1 ⟨x, H1, I1, r1, q1⟩ => ?_
  exact Constant_none (is_none_gen ⟨.bl _, H1, I1, by rw [r1.none_iff]; rfl, q1⟩)
/-- a comparison as a value, as a test -/
def tB (t : TE) : TT := fun σ H Q => t σ H fun x H1 => ∃ c, x = .bl c ∧ Q c H1
theorem pt_cmp {op : CmpOp} {t : TE} (h : PC X op a b t) (h1 : behindInMarks op b = false := by first | exact nobehind _ (by decide) (by decide) | rfl) : PT X (.Compare a [op] [b] pos) (tB t) := by
  intro pins s σ H Q I hw
  refine wpAny_isTrue_Compare1 (thn (h pins s σ H _ I hw) fun v s1 h1 => thn h1 fun u s2 h2 => thn h2 fun c s3 ⟨x, H1, I1, r1, q1⟩ => ?_) h1
  obtain ⟨d, rfl, q⟩ := q1
  cases r1
  exact wpAny_truthy_bool ⟨H1, I1, q⟩
/-- an expression whose value is a bool, as a test -/
theorem pt_val {e : Expr} {t : TE} (h : PE X e t) (he : ∀ whole, isTrue e X.env whole = (do let v ← whole; standAt e.pos; holding [v] (truthy v)) := by intro _; rfl) : PT X e (tB t) := by
  intro pins s σ H Q I hw
  refine isTrue_plain (thn (h pins s σ H _ I hw) fun v s1 ⟨x, H1, I1, r1, q1⟩ => ?_) (he _)
  obtain ⟨d, rfl, q⟩ := q1
  cases r1
  exact wpAny_truthy_bool ⟨H1, I1, q⟩

/-! ### and, or, not -/
variable {tA tB' : TT} {rest : List Expr}
def tAnd (t u : TT) : TT := fun σ H Q => t σ H fun c H1 => if c = true then u σ H1 Q else Q false H1
def tOr (t u : TT) : TT := fun σ H Q => t σ H fun c H1 => if c = true then Q true H1 else u σ H1 Q
def tNot (t : TT) : TT := fun σ H Q => t σ H fun c H1 => Q (!c) H1
theorem pw_and1 (ha : PT X a tA) : PW X (.BoolOp .And [a] pos) tA := by
  intro wh pins s σ H Q I h
  refine isTrue_and (thn (ha pins s σ H Q I h) fun c s1 e => ?_)
  cases c with
  | true => exact isTrue_and_nil e
  | false => exact e
theorem pw_or1 (ha : PT X a tA) : PW X (.BoolOp .Or [a] pos) tA := by
  intro wh pins s σ H Q I h
  refine isTrue_or (thn (ha pins s σ H Q I h) fun c s1 e => ?_)
  cases c with
  | false => exact isTrue_or_nil e
  | true => exact e
theorem pw_and (ha : PT X a tA) (hb : PW X (.BoolOp .And (b :: rest) pos) tB') : PW X (.BoolOp .And (a :: b :: rest) pos) (tAnd tA tB') := by
  intro wh pins s σ H Q I h
  refine isTrue_and (thn (ha pins s σ H _ I h) fun c s1 ⟨H1, I1, q1⟩ => ?_)
  cases c with
  | true => exact hb wh pins s1 σ H1 Q I1 q1
  | false => exact ⟨H1, I1, q1⟩
theorem pw_or (ha : PT X a tA) (hb : PW X (.BoolOp .Or (b :: rest) pos) tB') : PW X (.BoolOp .Or (a :: b :: rest) pos) (tOr tA tB') := by
  intro wh pins s σ H Q I h
  refine isTrue_or (thn (ha pins s σ H _ I h) fun c s1 ⟨H1, I1, q1⟩ => ?_)
  cases c with
  | true => exact ⟨H1, I1, q1⟩
  | false => exact hb wh pins s1 σ H1 Q I1 q1
theorem pt_not (ha : PT X a tA) : PT X (.UnaryOp .Not a pos) (tNot tA) := by
  intro pins s σ H Q I h
  exact isTrue_not (ha pins s σ H (fun c H1 => Q (!c) H1) I h)
/-- .. as values (bools) -/
def tAndV (ta tb : TE) : TE := fun σ H Q => ta σ H fun x H1 => ∃ c, x = .bl c ∧ if c = true then tb σ H1 Q else Q (.bl false) H1
def tOrV (ta tb : TE) : TE := fun σ H Q => ta σ H fun x H1 => ∃ c, x = .bl c ∧ if c = true then Q (.bl true) H1 else tb σ H1 Q
def tNotV (ta : TE) : TE := fun σ H Q => ta σ H fun x H1 => ∃ c, x = .bl c ∧ Q (.bl (!c)) H1
theorem pe_one {op} {t : TE} (h : PE X a t) : PE X (.BoolOp op [a] pos) t := fun pins s σ H Q I hw => BoolOp_one (h pins s σ H Q I hw)
theorem pe_and (ha : PE X a ta) (hb : PE X (.BoolOp .And (b :: rest) pos) tb) : PE X (.BoolOp .And (a :: b :: rest) pos) (tAndV ta tb) := by
  intro pins s σ H Q I h
  refine BoolOp_and (thn (ha pins s σ H _ I h) fun v s1 ⟨x, H1, I1, r1, q1⟩ => ?_)
  obtain ⟨c, rfl, q1⟩ := q1
  cases r1
  refine wpAny_truthy_bool ?_
  cases c with
  | true => exact hb pins s1 σ H1 Q I1 q1
  | false => exact ⟨.bl false, H1, I1, rfl, q1⟩
/-- a if t else b -/
def tIf (t : TT) (ta tb : TE) : TE := fun σ H Q => t σ H fun c H1 => if c = true then ta σ H1 Q else tb σ H1 Q
end
end L2

namespace L2
open PySem PySem.Spec PyProof.Rows

/-! ### a list, a tuple that is read: tracked, frozen, or an object of the module -/
def SqL (K : PySem.W.Frag) (H : Hp) (a : Addr) (xs : List V) : Prop :=
  Rd H a (.lst xs) ∨
    ∃ (o : Obj) (its : Array Value) (n : Nat), K.lookup a = some o ∧ o.cls = .type "list" ∧ o.dict = none ∧ o.data = .seq its n ∧ its.size ≤ sizeLine ∧ Vals xs its.toList
def SqT (K : PySem.W.Frag) (H : Hp) (a : Addr) (xs : List V) : Prop :=
  Rd H a (.tup xs) ∨
    ∃ (o : Obj) (its : Array Value) (n : Nat), K.lookup a = some o ∧ o.cls = .type "tuple" ∧ o.data = .seq its n ∧ its.size ≤ sizeLine ∧ Vals xs its.toList
def absV : Value → Option V
  | .none => some .non
  | .bool b => some (.bl b)
  | .int i _ => some (.int i)
  | .str x _ => some (.str x)
  | .bytes b _ => some (.byt b)
  | .float b _ => some (.flt b)
  | .ref a => some (.ref a)
  | .type n => some (.ty n)
  | _ => none
theorem RelV.abs {x : V} {u : Value} (r : RelV x u) : absV u = some x := by
  cases x with
  | non => cases r; rfl
  | bl _ => cases r; rfl
  | int _ => obtain ⟨t, rfl⟩ := r; rfl
  | str _ => obtain ⟨t, rfl⟩ := r; rfl
  | byt _ => obtain ⟨t, rfl⟩ := r; rfl
  | flt _ => obtain ⟨t, rfl⟩ := r; rfl
  | ref _ => cases r; rfl
  | ty _ => cases r; rfl
theorem RelV.inj {x y : V} {u : Value} (r : RelV x u) (q : RelV y u) : x = y := Option.some.inj (r.abs.symm.trans q.abs)
theorem Vals.inj : ∀ {xs ys : List V} {us : List Value}, Vals xs us → Vals ys us → xs = ys
  | _, _, _, .nil, .nil => rfl
  | _, _, _, .cons r t, .cons r' t' => by rw [r.inj r', Vals.inj t t']
section
variable {X : Cx} {pins : List (Addr × Obj)} {σ : St} {H : Hp} {s : Shared} {a : Addr} {xs ys : List V}
theorem SqL.of {K : PySem.W.Frag} (h : H a = some (.lst xs)) : SqL K H a xs := .inl (.inl h)
theorem SqT.of {K : PySem.W.Frag} (h : H a = some (.tup xs)) : SqT K H a xs := .inl (.inl h)
theorem Inv.list (I : Inv X pins σ H s) (h : SqL X.K H a xs) : ∃ its : List Value, Vals xs its ∧ PlainL s.heap a its.toArray ∧ xs.length ≤ sizeLine := by
  rcases h with h | ⟨o, its, n, hk, hc, hd, hs, hz, r⟩
  · obtain ⟨z, its, n, r, e⟩ := h.ok I.hok
    exact ⟨its, r, ⟨_, n, e, rfl, rfl, rfl⟩, z⟩
  · refine ⟨its.toList, r, ⟨o, n, I.kIn a o hk, hc, hd, by simpa using hs⟩, ?_⟩
    have e := r.length
    simp only [Array.length_toList] at e
    omega
theorem Inv.tuple (I : Inv X pins σ H s) (h : SqT X.K H a xs) : ∃ its : List Value, Vals xs its ∧ IsTup s.heap a its.toArray ∧ xs.length ≤ sizeLine := by
  rcases h with h | ⟨o, its, n, hk, hc, hs, hz, r⟩
  · obtain ⟨z, its, r, p⟩ := h.ok I.hok
    exact ⟨its, r, p, z⟩
  · refine ⟨its.toList, r, ⟨o, I.kIn a o hk, hc, n, by simpa using hs⟩, ?_⟩
    have e := r.length
    simp only [Array.length_toList] at e
    omega
theorem Inv.list_inj (I : Inv X pins σ H s) (h : SqL X.K H a xs) (h' : SqL X.K H a ys) : xs = ys := by
  obtain ⟨its, r, ⟨o, n, e, _, _, d⟩, _⟩ := I.list h
  obtain ⟨its', r', ⟨o', n', e', _, _, d'⟩, _⟩ := I.list h'
  rw [e] at e'; cases e'
  rw [d] at d'
  injection d' with d1 _
  have : its = its' := by simpa using congrArg Array.toList d1
  subst this
  exact r.inj r'
theorem Inv.tuple_inj (I : Inv X pins σ H s) (h : SqT X.K H a xs) (h' : SqT X.K H a ys) : xs = ys := by
  obtain ⟨its, r, ⟨o, e, _, n, d⟩, _⟩ := I.tuple h
  obtain ⟨its', r', ⟨o', e', _, n', d'⟩, _⟩ := I.tuple h'
  rw [e] at e'; cases e'
  rw [d] at d'
  injection d' with d1 _
  have : its = its' := by simpa using congrArg Array.toList d1
  subst this
  exact r.inj r'
end

/-! ### another wish about exceptions -/
abbrev Cx.wish (X : Cx) (E : Value → Shared → Prop) : Cx := { X with xe := E }
/-- no exception leaves -/
abbrev Cx.nox (X : Cx) : Cx := X.wish fun _ _ => False
theorem Cx.Ok.wish {X : Cx} (ok : X.Ok) (E : Value → Shared → Prop) : (X.wish E).Ok :=
  ⟨ok.mod, ok.kind, ok.glob, ok.blt, ok.above, ok.inj, ok.has, ok.cab, ok.hd, ok.frames, ok.stk, ok.exf, ok.bs, ok.bsz, ok.noex, ok.exfs, ok.funs, ok.frf⟩
theorem Cx.Ok.unwish {X : Cx} {E : Value → Shared → Prop} (ok : (X.wish E).Ok) : X.Ok :=
  ⟨ok.mod, ok.kind, ok.glob, ok.blt, ok.above, ok.inj, ok.has, ok.cab, ok.hd, ok.frames, ok.stk, ok.exf, ok.bs, ok.bsz, ok.noex, ok.exfs, ok.funs, ok.frf⟩
section
variable {X : Cx} {pins : List (Addr × Obj)} {σ : St} {H : Hp} {s : Shared} {E : Value → Shared → Prop}
theorem Inv.wish (I : Inv X pins σ H s) (E : Value → Shared → Prop) : Inv (X.wish E) pins σ H s := ⟨I.ok.wish E, I.os, I.bare, I.base, I.loc, I.cell, I.free, I.freeC, I.pin, I.hok, I.len⟩
theorem Inv.unwish (I : Inv (X.wish E) pins σ H s) : Inv X pins σ H s := ⟨I.ok.unwish, I.os, I.bare, I.base, I.loc, I.cell, I.free, I.freeC, I.pin, I.hok, I.len⟩
theorem SP.unwish {D : Ends} {f : Flow} {s' : Shared} (h : SP (X.wish E) pins D f s') : SP X pins D f s' := by
  cases f with
  | next => obtain ⟨σ', H', I, q⟩ := h; exact ⟨σ', H', I.unwish, q⟩
  | brk => obtain ⟨σ', H', I, q⟩ := h; exact ⟨σ', H', I.unwish, q⟩
  | cont => obtain ⟨σ', H', I, q⟩ := h; exact ⟨σ', H', I.unwish, q⟩
  | ret u => obtain ⟨v, σ', H', I, r, q⟩ := h; exact ⟨v, σ', H', I.unwish, r, q⟩
theorem PSs.nox {st : List Stmt} {t : TS} (h : PSs X.nox st t) : PSs X st t := fun pins s σ H D I hw =>
  wpAny_mono (h pins s σ H D (I.wish _) hw) (fun _ _ q => q.unwish) fun _ _ z => False.elim z
end

/-! ### blocks and small statements -/
section
variable {X : Cx} {st : Stmt} {rest : List Stmt} {t u : TS} {e : Expr} {te : TE} {pos : Pos}
def tNext : TS := fun D σ H => D.nx σ H
def tSeq (t u : TS) : TS := fun D σ H => t { D with nx := u D } σ H
theorem pss_nil : PSs X [] tNext := fun _ _ σ H _ I h => wpAny_execs_nil ⟨σ, H, I, h⟩
theorem pss_cons (h1 : PS X st t) (h2 : PSs X rest u) : PSs X (st :: rest) (tSeq t u) := by
  intro pins s σ H D I h
  refine wpAny_execs_cons (thn (h1 pins s σ H { D with nx := u D } I h) fun f s1 q => ?_)
  cases f with
  | next =>
    obtain ⟨σ', H', I', q⟩ := q
    exact h2 pins s1 σ' H' D I' q
  | ret v => exact q
  | brk => exact q
  | cont => exact q
theorem pss_one (h1 : PS X st t) : PSs X [st] t := by
  intro pins s σ H D I h
  refine wpAny_execs_cons (thn (h1 pins s σ H D I h) fun f s1 q => ?_)
  cases f with
  | next => exact wpAny_execs_nil q
  | ret v => exact q
  | brk => exact q
  | cont => exact q
def tBreak : TS := fun D σ H => D.bk σ H
def tCont : TS := fun D σ H => D.ct σ H
/-- in a def's body nothing is shown -/
theorem Inv.quiet {pins : List (Addr × Obj)} {σ : St} {H : Hp} {s : Shared} (I : Inv X pins σ H s) : interactive X.env = false := by simp [interactive, I.ok.kind]
/-- an expression whose value is dropped -/
def tDrop (te : TE) : TS := fun D σ H => te σ H fun _ H1 => D.nx σ H1
theorem ps_expr (he : PE X e te) (hs : swapsWith e none pos.line X.env = pure false := by rfl) : PS X (.Expr e pos) (tDrop te) := by
  intro pins s σ H D I h
  exact wpAny_Expr_any (thn (he pins s σ H _ I h) fun v s1 ⟨x, H1, I1, r1, q1⟩ => ⟨σ, H1, I1, q1⟩) I.quiet hs
def tRet (te : TE) : TS := fun D σ H => te σ H D.rt
theorem ps_ret (he : PE X e te) : PS X (.Return (some e) pos) (tRet te) := by
  intro pins s σ H D I h
  exact wpAny_Return_some (thn (he pins s σ H _ I h) fun v s1 ⟨x, H1, I1, r1, q1⟩ => ⟨x, σ, H1, I1, r1, q1⟩)
def tRetN : TS := fun D _ H => D.rt .non H
def tIfS (c : TT) (t u : TS) : TS := fun D σ H => c σ H fun b H1 => if b = true then t D σ H1 else u D σ H1
theorem ps_if {c : Expr} {a b : List Stmt} {tc : TT} (hc : PT X c tc) (ha : PSs X a t) (hb : PSs X b u) : PS X (.If c a b pos) (tIfS tc t u) := by
  intro pins s σ H D I h
  refine wpAny_If (thn (hc pins s σ H _ I h) fun d s1 ⟨H1, I1, q1⟩ => ?_)
  cases d with
  | true => exact ha pins s1 σ H1 D I1 q1
  | false => exact hb pins s1 σ H1 D I1 q1
/-- code that the proof never comes to -/
def tNever : TS := fun _ _ _ => False
end

/-! ### targets -/
abbrev TG := V → St → Hp → (St → Hp → Prop) → Prop
abbrev TGs := List V → St → Hp → (St → Hp → Prop) → Prop
def PG (X : Cx) (target : Expr) (t : TG) : Prop :=
  ∀ (pins : List (Addr × Obj)) (s : Shared) (σ : St) (H : Hp) (v : V) (u : Value) (Q : St → Hp → Prop), Inv X pins σ H s → RelV v u → t v σ H Q →
    wpAny (model X.prog X.w) X.A (assign target X.env u) (fun _ s' => ∃ σ' H', Inv X pins σ' H' s' ∧ Q σ' H') X.xe s
/-- several targets, one after another -/
def PGs (X : Cx) (ts : List Expr) (t : TGs) : Prop :=
  ∀ (pins : List (Addr × Obj)) (s : Shared) (σ : St) (H : Hp) (vs : List V) (us : List Value) (Q : St → Hp → Prop), Inv X pins σ H s → Vals vs us → t vs σ H Q →
    wpAny (model X.prog X.w) X.A (assignInOrder ((assignEach ts X.env).map (·.2)) us) (fun _ s' => ∃ σ' H', Inv X pins σ' H' s' ∧ Q σ' H') X.xe s
/-- o[i] = v, by values -/
abbrev TSet := V → V → V → Hp → (Hp → Prop) → Prop
def PSet (X : Cx) (t : TSet) : Prop :=
  ∀ (pins : List (Addr × Obj)) (s : Shared) (σ : St) (H : Hp) (o i v : V) (ov iv u : Value) (Q : Hp → Prop), Inv X pins σ H s → RelV o ov → RelV i iv → RelV v u → t o i v H Q →
    wpAny (model X.prog X.w) X.A (setItem ov iv u) (fun _ s' => ∃ H', Inv X pins σ H' s' ∧ Q H') X.xe s
/-- a op= b, by values -/
abbrev TIp := V → V → Hp → VK → Prop
def PIp (X : Cx) (op : Operator) (t : TIp) : Prop :=
  ∀ (pins : List (Addr × Obj)) (s : Shared) (σ : St) (H : Hp) (x y : V) (v u : Value) (Q : VK), Inv X pins σ H s → RelV x v → RelV y u → t x y H Q →
    wpAny (model X.prog X.w) X.A (inplaceOp op v u) (EP X pins σ Q) X.xe s
section
variable {X : Cx} {pos : Pos}
def gName (i : Nat) : TG := fun v σ H Q => Q (σ.set i (some v)) H
theorem pg_name {i : Nat} {x : Str} (hN : X.N.Nodup) (hi : X.N[i]? = some x) (hx : Loc X.env.scope x) (hf : X.fn x = true ∨ X.env.scope.names.lookup x = some .local := by first | exact .inl rfl | exact .inr rfl | assumption) : PG X (.Name x pos) (gName i) := by
  intro pins s σ H v u Q I r h
  exact wpAny_assign_Name (store_ok I hN hi hx r (fun s' I' => ⟨_, H, I', h⟩) hf)
def gNil : TGs := fun vs σ H Q => vs = [] ∧ Q σ H
def gCons (t : TG) (u : TGs) : TGs := fun vs σ H Q => ∃ v r, vs = v :: r ∧ t v σ H fun σ' H' => u r σ' H' Q
theorem pgs_nil : PGs X [] gNil := by
  intro pins s σ H vs us Q I r h
  obtain ⟨e, h⟩ := h
  subst e
  cases r
  exact assignInOrder_nil ⟨σ, H, I, h⟩
theorem pgs_cons {e : Expr} {es : List Expr} {t : TG} {u : TGs} (h1 : PG X e t) (h2 : PGs X es u)
    (hs : (assignEach (e :: es) X.env).map (·.2) = assign e X.env :: (assignEach es X.env).map (·.2) := by rfl) : PGs X (e :: es) (gCons t u) := by
  intro pins s σ H vs us Q I r h
  obtain ⟨v, vr, e1, h⟩ := h
  subst e1
  cases r with
  | cons r rr =>
    rw [hs]
    refine assignInOrder_cons (thn (h1 pins s σ H _ _ _ I r h) fun _ s1 ⟨σ1, H1, I1, q1⟩ => ?_)
    exact h2 pins s1 σ1 H1 _ _ Q I1 rr q1
/-- (a, b, ..) = a tuple of that length -/
def gTup (K : PySem.W.Frag) (n : Nat) (t : TGs) : TG := fun v σ H Q => ∃ a xs, v = .ref a ∧ SqT K H a xs ∧ xs.length = n ∧ t xs σ H Q
theorem pg_tup {es : List Expr} {k : Nat} {t : TGs} {n : Nat} (hc : X.calm = true) (h : PGs X es t)
    (hn : (assignEach es X.env).length = n := by rfl) (hst : (assignEach es X.env).findIdx? (·.1) = none := by rfl) : PG X (.Tuple es k pos) (gTup X.K n t) := by
  intro pins s σ H v u Q I r hw
  obtain ⟨a, xs, e1, hq, hl, hw⟩ := hw
  subst e1
  cases r
  obtain ⟨its, rv, ht, hz⟩ := I.tuple hq
  refine assign_Tuple_tuple (I.ok.hd hc) ht (by simp [hn, ← hl, rv.length]) hst fun h' hx => ?_
  have I1 : Inv X pins σ H { s with heap := h' } := I.kept (t' := s.toks) fun b o e => hx b o (Nat.ne_of_lt (Heap.lt_size e)) e
  exact h pins _ σ H xs _ Q I1 (by simpa using rv) hw
/-- o[i] = .. -/
def gSub (to ti : TE) (t : TSet) : TG := fun v σ H Q => to σ H fun o H1 => ti σ H1 fun i H2 => t o i v H2 fun H3 => Q σ H3
theorem pg_sub {o i : Expr} {to ti : TE} {t : TSet} (ho : PE X o to) (hi : PE X i ti) (hs : PSet X t)
    (ha : ∀ v, assign (.Subscript o i pos) X.env v = (do
      let ov ← holding [v] (eval o X.env)
      let iv ← holding [v, ov] (eval i X.env)
      standAt pos
      holding [v, ov, iv] (setItem ov iv v)
      release [v, ov, iv] []) := by intro _; rfl) : PG X (.Subscript o i pos) (gSub to ti t) := by
  intro pins s σ H v u Q I r h
  rw [ha]
  refine wpAny_bind (wpAny_holding (thn (ho pins s σ H _ I h) fun ov s1 ⟨x, H1, I1, r1, q1⟩ => ?_))
  refine wpAny_bind (wpAny_holding (thn (hi pins s1 σ H1 _ I1 q1) fun iv s2 ⟨y, H2, I2, r2, q2⟩ => ?_))
  refine wpAny_bind (wpAny_standAt (wpAny_bind (wpAny_holding (thn (hs pins s2 σ H2 x y v ov iv u _ I2 r1 r2 r q2) fun _ s3 ⟨H3, I3, q3⟩ => ?_))))
  exact wpAny_release ⟨σ, H3, I3, q3⟩
/-- target = value -/
def tAsg (te : TE) (g : TG) : TS := fun D σ H => te σ H fun x H1 => g x σ H1 D.nx
theorem ps_asg {tg e : Expr} {te : TE} {g : TG} (he : PE X e te) (hg : PG X tg g) (hs : swapsWithSole [tg] e pos.line X.env = pure false := by rfl) (hw : swappedStores [tg] e X.env = pure none := by rfl)
    (h1 : (assignEach [tg] X.env).map (·.2) = [assign tg X.env] := by rfl) : PS X (.Assign [tg] e pos) (tAsg te g) := by
  intro pins s σ H D I h
  refine wpAny_Assign_stores (thn (he pins s σ H _ I h) fun v s1 ⟨x, H1, I1, r1, q1⟩ => ?_) hs hw
  rw [h1]
  exact thn (hg pins s1 σ H1 x v _ I1 r1 q1) fun _ s2 q => q
/-- name = value -/
theorem ps_set {i : Nat} {x : Str} {e : Expr} {te : TE} {pos' : Pos} (hN : X.N.Nodup) (hi : X.N[i]? = some x) (hx : Loc X.env.scope x) (he : PE X e te) (hs : swapsWith e (some (.Name x pos')) pos.line X.env = pure false := by rfl) (hf : X.fn x = true ∨ X.env.scope.names.lookup x = some .local := by first | exact .inl rfl | exact .inr rfl | assumption) :
    PS X (.Assign [.Name x pos'] e pos) (tAsg te (gName i)) := by
  intro pins s σ H D I h
  refine wpAny_Assign_Name (thn (he pins s σ H _ I h) fun v s1 ⟨y, H1, I1, r1, q1⟩ => ?_) hs
  exact store_ok I1 hN hi hx r1 (fun s2 I2 => ⟨_, H1, I2, q1⟩) hf
/-- a, b = x, y with plain local names: stored from the right; the pair itself is not tracked (the opening rows as in PyProof/Rows/TupAssign.lean:23) -/
def tPar (i j : Nat) (ta : TA) : TS := fun D σ H => ta σ H fun vs H1 => ∃ v w, vs = [v, w] ∧ D.nx ((σ.set i (some v)).set j (some w)) H1
/-- name op= e -/
def tAug (i : Nat) (te : TE) (ti : TIp) : TS := fun D σ H => ∃ x, σ[i]? = some (some x) ∧ te σ H fun y H1 => ti x y H1 fun z H2 => D.nx (σ.set i (some z)) H2
/-- o[i] op= e -/
def tAugS (to ti te : TE) (tget : V → V → Hp → VK → Prop) (tip : TIp) (tset : TSet) : TS := fun D σ H => to σ H fun o H1 => ti σ H1 fun i H2 => tget o i H2 fun x H3 => te σ H3 fun y H4 => tip x y H4 fun z H5 => tset o i z H5 fun H6 => D.nx σ H6
/-- o[i], by values -/
def PGet (X : Cx) (t : V → V → Hp → VK → Prop) : Prop :=
  ∀ (pins : List (Addr × Obj)) (s : Shared) (σ : St) (H : Hp) (o i : V) (ov iv : Value) (Q : VK), Inv X pins σ H s → RelV o ov → RelV i iv → t o i H Q →
    wpAny (model X.prog X.w) X.A (getItem ov iv) (EP X pins σ Q) X.xe s
/-- ints -/
def ipI (f : Int → Int → Int) : TIp := fun x y H Q => ∃ i j, x = .int i ∧ y = .int j ∧ Q (.int (f i j)) H
end

/-! ### while -/
section
variable {X : Cx} {pos : Pos}
/-- the invariant W with its measure -/
def tWhile (c : TT) (tb : TS) : TS := fun D σ H => ∃ W : Nat → St → Hp → Prop, (∃ m, W m σ H) ∧ ∀ m σ H, W m σ H →
  c σ H fun b H1 => if b = true then ∃ N : St → Hp → Prop, (∀ σ' H', N σ' H' → ∃ m', m' < m ∧ W m' σ' H') ∧ tb { D with nx := N, ct := N, bk := D.nx } σ H1 else D.nx σ H1
end

/-! ### what a loop or a comprehension walks -/
/-- at turn i: it yields x (the heap may grow), or it stops -/
structure It where
  go : Nat → Hp → Prop
  yld : Nat → Hp → V → Hp → Prop
  stop : Nat → Hp → Prop
/-- the iterator's own objects may turn: they are not the frame's, not pinned, younger than the entry (or a comprehension's own) -/
def FpOk (X : Cx) (pins : List (Addr × Obj)) (H : Hp) (b : Addr) : Prop :=
  H b = none ∧ b ≠ X.env.locals ∧ b ∉ X.fs ∧ (b ∈ X.ex ∨ X.s₀.heap.objs.size ≤ b) ∧ (∀ x c, X.env.cells.lookup x = some c → c ≠ b) ∧ ∀ p ∈ X.pn ++ pins, p.1 ≠ b
theorem Inv.fpOk {X : Cx} {pins : List (Addr × Obj)} {σ : St} {H H' : Hp} {s : Shared} {b : Addr} (I : Inv X pins σ H s) (hb : s.heap.objs.size ≤ b) (hn : H' b = none) : FpOk X pins H' b := by
  refine ⟨hn, Nat.ne_of_gt (Nat.lt_of_lt_of_le I.lt hb), I.nofs hb, .inr (Nat.le_trans I.sz hb), fun x c e z => ?_, fun p hp z => ?_⟩
  · obtain ⟨v, q⟩ := I.cell x c e
    exact absurd (Nat.lt_of_lt_of_le q.lt (by rw [z]; exact hb)) (Nat.lt_irrefl _)
  · exact absurd (Nat.lt_of_lt_of_le (Heap.lt_size (I.pin p hp).1) (by rw [z]; exact hb)) (Nat.lt_irrefl _)
structure Turn (P : Program) (w : World) (K : PySem.W.Frag) (tg : Expr) (J : It) (fp : List Addr) (it : Addr) (tn : Nat → Heap → Prop) : Prop where
  mem : it ∈ fp
  obj : ∀ i h, tn i h → ∀ b ∈ fp, ∃ o, h.get? b = some o ∧ ∀ v, o.data ≠ .cell v
  keep : ∀ i h h', tn i h → (∀ b ∈ fp, ∀ o, h.get? b = some o → h'.get? b = some o) → tn i h'
  item : ∀ (X : Cx), X.prog = P → X.w = w → X.K = K → X.calm = true → ∀ (i : Nat) (pins : List (Addr × Obj)) (s : Shared) (σ : St) (H : Hp) (E : Value → Shared → Prop), Inv X pins σ H s → (∀ b ∈ fp, FpOk X pins H b) → tn i s.heap → J.go i H →
    wpAny (model P w) X.A (pyNext (.ref it)) (fun r s1 => ∃ u, r = some u ∧
      wpAny (model P w) X.A (letOwnedTupleGo tg (.ref it) u) (fun _ s2 => ∃ x H', Inv X pins σ H' s2 ∧ RelV x u ∧ J.yld i H x H' ∧ tn (i + 1) s2.heap ∧ ∀ b ∈ fp, H' b = none) E s1) E s
  done : ∀ (X : Cx), X.prog = P → X.w = w → X.K = K → X.calm = true → ∀ (i : Nat) (pins : List (Addr × Obj)) (s : Shared) (σ : St) (H : Hp) (E : Value → Shared → Prop), Inv X pins σ H s → (∀ b ∈ fp, FpOk X pins H b) → tn i s.heap → J.stop i H →
    wpAny (model P w) X.A (pyNext (.ref it)) (fun r s1 => r = none ∧ Inv X pins σ H s1) E s
  self : ∀ (A : Around) (i : Nat) (s : Shared) (Q : Value → Shared → Prop) (E : Value → Shared → Prop), tn i s.heap → Q (.ref it) s → wpAny (model P w) A (pyIter (.ref it)) Q E s
abbrev TI := St → Hp → (It → Hp → Prop) → Prop
/-- an iterator has come -/
def PIE (X : Cx) (pins : List (Addr × Obj)) (σ : St) (tg : Expr) (R : It → Hp → Prop) (itv : Value) (s2 : Shared) : Prop :=
  ∃ (it : Addr) (fp : List Addr) (tn : Nat → Heap → Prop) (J : It) (H' : Hp), itv = .ref it ∧ Inv X pins σ H' s2 ∧ Turn X.prog X.w X.K tg J fp it tn ∧ tn 0 s2.heap ∧ (∀ b ∈ fp, FpOk X pins H' b) ∧ R J H'
def PI (X : Cx) (tg iter : Expr) (wi : TI) : Prop :=
  ∀ (pins : List (Addr × Obj)) (s : Shared) (σ : St) (H : Hp) (R : It → Hp → Prop), Inv X pins σ H s → wi σ H R →
    wpAny (model X.prog X.w) X.A (eval iter X.env) (fun v s1 => wpAny (model X.prog X.w) X.A (pyIter v) (PIE X pins σ tg R) X.xe s1) X.xe s

/-- the step ahead of the store is nothing for an iterator that keeps no tuple -/
theorem go_of {M : Model} {A : Around} {E : Value → Shared → Prop} {s : Shared} {tg : Expr} {it : Addr} {u : Value} {o : Obj} {n : String} {vs : Array Value} {Q : Unit → Shared → Prop} (ho : s.heap.get? it = some o) (hc : o.cls = .type n) (hd : o.data = .fields vs)
    (hn : ["enumerate", "zip", "dict_itemiterator", "dict_reverseitemiterator", "odict_iterator", "itertools.zip_longest", "itertools.pairwise"].contains n = false) (hQ : Q () s) : wpAny M A (letOwnedTupleGo tg (.ref it) u) Q E s := by
  unfold letOwnedTupleGo
  cases tg <;> first
    | exact wpAny_pure hQ
    | (cases u <;> first
        | exact wpAny_pure hQ
        | (refine wpAny_bind (wpAny_load ho ?_)
           rw [hc, hd]
           show wpAny M A (if (["enumerate", "zip", "dict_itemiterator", "dict_reverseitemiterator", "odict_iterator", "itertools.zip_longest", "itertools.pairwise"].contains n && vs[0]? == some (rawInt _)) = true then _ else _) Q E s
           rw [if_neg (by intro h; rw [hn, Bool.false_and] at h; cases h)]
           exact wpAny_pure hQ))

/-- the list at a, as it stands at each turn (a loop may append to it) -/
def Itl (K : PySem.W.Frag) (a : Addr) : It :=
  ⟨fun i H => ∃ xs x, SqL K H a xs ∧ xs[i]? = some x, fun i H x H' => H' = H ∧ ∀ xs, SqL K H a xs → xs[i]? = some x, fun i H => ∃ xs, SqL K H a xs ∧ xs.length ≤ i⟩
def Itt (K : PySem.W.Frag) (a : Addr) : It :=
  ⟨fun i H => ∃ xs x, SqT K H a xs ∧ xs[i]? = some x, fun i H x H' => H' = H ∧ ∀ xs, SqT K H a xs → xs[i]? = some x, fun i H => ∃ xs, SqT K H a xs ∧ xs.length ≤ i⟩
/-- lo, lo + 1, .. (n of them) -/
def Itr (lo : Int) (n : Nat) : It := ⟨fun i _ => i < n, fun i H x H' => H' = H ∧ x = .int (lo + i), fun i _ => n ≤ i⟩
theorem turn_list {P : Program} {w : World} {K : PySem.W.Frag} {tg : Expr} (a it : Addr) : Turn P w K tg (Itl K a) [it] it (fun i h => h.IsListIter it a i) where
  mem := by simp
  obj := fun i h st b hb => by
    have e : b = it := by simpa using hb
    subst e
    obtain ⟨o, e, c, d⟩ := st
    exact ⟨o, e, fun v z => by rw [d] at z; cases z⟩
  keep := fun i h h' st k => st.at fun o e => k it (by simp) o e
  item := by
    intro X hP hw hK hc i pins s σ H E I hf st hg
    subst hP hw hK
    obtain ⟨xs, x, hq, hx⟩ := hg
    obtain ⟨its, rv, p, hz⟩ := I.list hq
    obtain ⟨u, hu, ru⟩ := rv.get hx
    obtain ⟨f0, f1, f2, f3, f4, f5⟩ := hf it (by simp)
    refine wpAny_pyNext_list_item st p.isList (x := u) (by simpa using hu) fun h' st' sb => ?_
    have I1 : Inv X pins σ H { s with heap := h' } := I.turned (t' := s.toks) (fun b o hb e => (sb.2 b hb).trans e) f0 f1 f3 f4 f5
    obtain ⟨o, e, c, d⟩ := id st'
    exact ⟨u, rfl, go_of (s := { s with heap := h' }) e c d (by decide) ⟨x, H, I1, ru, ⟨rfl, fun ys hy => by rw [I.list_inj hy hq]; exact hx⟩, st', fun b hb => (hf b hb).1⟩⟩
  done := by
    intro X hP hw hK hc i pins s σ H E I hf st hg
    subst hP hw hK
    obtain ⟨xs, hq, hx⟩ := hg
    obtain ⟨its, rv, p, hz⟩ := I.list hq
    obtain ⟨f0, f1, f2, f3, f4, f5⟩ := hf it (by simp)
    have hl := rv.length
    exact wpAny_pyNext_list_end (I.ok.hd hc) st p.isList (by simp; omega) fun h' eb => ⟨rfl, I.turned (t' := s.toks) (fun b o hb e => eb b o hb e) f0 f1 f3 f4 f5⟩
  self := fun _ _ _ _ _ st h => wpAny_pyIter_listiter st h
theorem turn_tuple {P : Program} {w : World} {K : PySem.W.Frag} {tg : Expr} (a it : Addr) : Turn P w K tg (Itt K a) [it] it (fun i h => h.IsTupleIter it a i) where
  mem := by simp
  obj := fun i h st b hb => by
    have e : b = it := by simpa using hb
    subst e
    obtain ⟨o, e, c, d⟩ := st
    exact ⟨o, e, fun v z => by rw [d] at z; cases z⟩
  keep := fun i h h' st k => st.at fun o e => k it (by simp) o e
  item := by
    intro X hP hw hK hc i pins s σ H E I hf st hg
    subst hP hw hK
    obtain ⟨xs, x, hq, hx⟩ := hg
    obtain ⟨its, rv, p, hz⟩ := I.tuple hq
    obtain ⟨u, hu, ru⟩ := rv.get hx
    obtain ⟨f0, f1, f2, f3, f4, f5⟩ := hf it (by simp)
    refine wpAny_pyNext_tuple_item st (show s.heap.IsTuple a its.toArray from p) (x := u) (by simpa using hu) fun h' st' sb => ?_
    have I1 : Inv X pins σ H { s with heap := h' } := I.turned (t' := s.toks) (fun b o hb e => (sb.2 b hb).trans e) f0 f1 f3 f4 f5
    obtain ⟨o, e, c, d⟩ := id st'
    exact ⟨u, rfl, go_of (s := { s with heap := h' }) e c d (by decide) ⟨x, H, I1, ru, ⟨rfl, fun ys hy => by rw [I.tuple_inj hy hq]; exact hx⟩, st', fun b hb => (hf b hb).1⟩⟩
  done := by
    intro X hP hw hK hc i pins s σ H E I hf st hg
    subst hP hw hK
    obtain ⟨xs, hq, hx⟩ := hg
    obtain ⟨its, rv, p, hz⟩ := I.tuple hq
    obtain ⟨f0, f1, f2, f3, f4, f5⟩ := hf it (by simp)
    have hl := rv.length
    exact wpAny_pyNext_tuple_end (I.ok.hd hc) st (show s.heap.IsTuple a its.toArray from p) (by simp; omega) fun h' eb => ⟨rfl, I.turned (t' := s.toks) (fun b o hb e => eb b o hb e) f0 f1 f3 f4 f5⟩
  self := fun _ _ _ _ _ st h => wpAny_pyIter_tupleiter st h
theorem turn_range {P : Program} {w : World} {K : PySem.W.Frag} {tg : Expr} (it : Addr) (lo : Int) (n : Nat) : Turn P w K tg (Itr lo n) [it] it (fun i h => IsRangeIter h it (lo + (i : Nat) * 1) ((n : Int) - (i : Nat)) 1) where
  mem := by simp
  obj := fun i h st b hb => by
    have e : b = it := by simpa using hb
    subst e
    exact ⟨_, st, fun v z => by
      have z' : Data.fields _ = Data.cell v := z
      cases z'⟩
  keep := fun i h h' st k => k it (by simp) _ st
  item := by
    intro X hP hw hK hc i pins s σ H E I hf st hg
    subst hP hw hK
    obtain ⟨f0, f1, f2, f3, f4, f5⟩ := hf it (by simp)
    have W := Walks.range (prog := X.prog) (w := X.w) (I.ok.hd hc) it lo 1 n
    refine W.item i s _ _ hg st fun v h' tk hv st' kk => ?_
    obtain ⟨t, rfl⟩ := hv
    have I1 : Inv X pins σ H { s with heap := h', toks := tk } := I.turned (fun b o hb e => kk b o (by simpa using hb) e) f0 f1 f3 f4 f5
    refine ⟨_, rfl, go_of (s := { s with heap := h', toks := tk }) (n := "range_iterator") st' rfl rfl (by decide) ⟨.int (lo + i), H, I1, ⟨t, ?_⟩, ⟨rfl, rfl⟩, st', fun b hb => (hf b hb).1⟩⟩
    rw [Int.mul_one]
  done := by
    intro X hP hw hK hc i pins s σ H E I hf st hg
    subst hP hw hK
    obtain ⟨f0, f1, f2, f3, f4, f5⟩ := hf it (by simp)
    exact wpAny_pyNext_range_end (I.ok.hd hc) st (by have : n ≤ i := hg; omega) fun h' eb => ⟨rfl, I.turned (t' := s.toks) (fun b o hb e => eb b o hb e) f0 f1 f3 f4 f5⟩
  self := fun _ _ _ _ _ st h => wpAny_pyIter_rangeiter st h
end L2

namespace L2
open PySem PySem.Spec PyProof.Rows
section
variable {X : Cx} {tg : Expr}
def iList (K : PySem.W.Frag) (tl : TE) : TI := fun σ H R => tl σ H fun x H1 => ∃ a, x = .ref a ∧ (∃ xs, SqL K H1 a xs) ∧ R (Itl K a) H1
def iTup (K : PySem.W.Frag) (tl : TE) : TI := fun σ H R => tl σ H fun x H1 => ∃ a, x = .ref a ∧ (∃ xs, SqT K H1 a xs) ∧ R (Itt K a) H1
theorem pi_list {l : Expr} {tl : TE} (hl : PE X l tl) : PI X tg l (iList X.K tl) := by
  intro pins s σ H R I h
  refine thn (hl pins s σ H _ I h) fun v s1 ⟨x, H1, I1, r1, q1⟩ => ?_
  obtain ⟨a, e, ⟨xs, hq⟩, q⟩ := q1
  subst e
  cases r1
  obtain ⟨its, rv, p, hz⟩ := I1.list hq
  refine wpAny_pyIter_list p.isList ?_
  refine ⟨s1.heap.objs.size, [s1.heap.objs.size], _, _, H1, rfl, I1.kept (t' := s1.toks) fun b o e => Heap.get?_push_of_some _ e, turn_list a _, ⟨_, Heap.get?_push_size _ rfl, rfl, rfl⟩, fun b hb => ?_, q⟩
  have e : b = s1.heap.objs.size := by simpa using hb
  subst e
  exact I1.fpOk (Nat.le_refl _) (I1.hok.fresh (Nat.le_refl _))
theorem pi_tup {l : Expr} {tl : TE} (hl : PE X l tl) : PI X tg l (iTup X.K tl) := by
  intro pins s σ H R I h
  refine thn (hl pins s σ H _ I h) fun v s1 ⟨x, H1, I1, r1, q1⟩ => ?_
  obtain ⟨a, e, ⟨xs, hq⟩, q⟩ := q1
  subst e
  cases r1
  obtain ⟨its, rv, p, hz⟩ := I1.tuple hq
  refine wpAny_pyIter_tuple (show s1.heap.IsTuple a its.toArray from p) ?_
  refine ⟨s1.heap.objs.size, [s1.heap.objs.size], _, _, H1, rfl, I1.kept (t' := s1.toks) fun b o e => Heap.get?_push_of_some _ e, turn_tuple a _, ⟨_, Heap.get?_push_size _ rfl, rfl, rfl⟩, fun b hb => ?_, q⟩
  have e : b = s1.heap.objs.size := by simpa using hb
  subst e
  exact I1.fpOk (Nat.le_refl _) (I1.hok.fresh (Nat.le_refl _))
/-- a range object just made, walked -/
theorem range_it {pins : List (Addr × Obj)} {σ : St} {H : Hp} {s : Shared} {R : It → Hp → Prop} {E : Value → Shared → Prop} {lo hi : Int} {t u v : Tok} {tk : Nat} (I : Inv X pins σ H s) (h1 : -(2 ^ 62) ≤ lo) (h2 : lo < 2 ^ 62) (h3 : -(2 ^ 62) ≤ hi) (h4 : hi < 2 ^ 62)
    (q : R (Itr lo (hi - lo).toNat) H) : wpAny (model X.prog X.w) X.A (pyIter (.ref s.heap.objs.size)) (PIE X pins σ tg R) E { s with heap := s.heap.push { cls := .type "range", data := .fields #[.int lo t, .int hi u, .int 1 v] }, toks := tk } := by
  refine wpAny_pyIter_range (IsRange.new ..) (small_one h1 h2 h3 h4) ?_
  have I1 : Inv X pins σ H { s with heap := s.heap.push { cls := .type "range", data := .fields #[.int lo t, .int hi u, .int 1 v] }, toks := tk } := I.kept fun b o e => Heap.get?_push_of_some _ e
  refine ⟨(s.heap.push { cls := .type "range", data := .fields #[.int lo t, .int hi u, .int 1 v] }).objs.size, [(s.heap.push { cls := .type "range", data := .fields #[.int lo t, .int hi u, .int 1 v] }).objs.size], _, _, H, rfl,
    I1.kept (t' := tk) fun b o e => Heap.get?_push_of_some _ e, turn_range _ lo (hi - lo).toNat, ?_, fun b hb => ?_, q⟩
  · have e1 : lo + ((0 : Nat) : Int) * 1 = lo := by simp
    have e2 : (((hi - lo).toNat : Nat) : Int) - ((0 : Nat) : Int) = Builtin.Range.rangeSize lo hi 1 := by rw [rangeSize_one]; split <;> omega
    show IsRangeIter _ _ (lo + ((0 : Nat) : Int) * 1) ((((hi - lo).toNat : Nat) : Int) - ((0 : Nat) : Int)) 1
    rw [e1, e2]
    exact Heap.get?_push_size _ rfl
  · have e : b = (s.heap.push { cls := .type "range", data := .fields #[.int lo t, .int hi u, .int 1 v] }).objs.size := by simpa using hb
    subst e
    exact I1.fpOk (Nat.le_refl _) (I1.hok.fresh (Nat.le_refl _))
def iRng1 (ta : TA) : TI := fun σ H R => ta σ H fun vs H1 => ∃ j : Int, vs = [.int j] ∧ -(2 ^ 62) ≤ j ∧ j < 2 ^ 62 ∧ R (Itr 0 j.toNat) H1
def iRng2 (ta : TA) : TI := fun σ H R => ta σ H fun vs H1 => ∃ i j : Int, vs = [.int i, .int j] ∧ (-(2 ^ 62) ≤ i ∧ i < 2 ^ 62 ∧ -(2 ^ 62) ≤ j ∧ j < 2 ^ 62) ∧ R (Itr i (j - i).toNat) H1
theorem pi_range1 {a : Expr} {ta : TA} {p pos : Pos} (hg : Gl X "range") (hm : X.mg "range" = none) (ha : PA X [a] ta) (hs : starEach [a] X.env = [(false, eval a X.env)] := by rfl) : PI X tg (.Call (.Name "range" p) [a] [] pos) (iRng1 ta) := by
  intro pins s σ H R I h
  refine Call_ (ld_blt I hg hm boot_range (PyProof.Rows.callWith_type1 (thn (ha pos pins s σ H _ I h) fun us s1 ⟨vs, H1, I1, r1, q1⟩ => ?_) hs rfl))
  obtain ⟨j, e, q1, q2, q⟩ := q1
  subst e
  cases r1 with
  | cons r rr =>
    cases rr
    obtain ⟨t, rfl⟩ := r
    exact call_range_1 (range_it I1 (by omega) (by omega) q1 q2 (by simpa using q))
theorem pi_range2 {a b : Expr} {ta : TA} {p pos : Pos} (hg : Gl X "range") (hm : X.mg "range" = none) (ha : PA X [a, b] ta) (hs : starEach [a, b] X.env = [(false, eval a X.env), (false, eval b X.env)] := by rfl) (hs2 : starEach [b] X.env = [(false, eval b X.env)] := by rfl) :
    PI X tg (.Call (.Name "range" p) [a, b] [] pos) (iRng2 ta) := by
  intro pins s σ H R I h
  refine Call_ (ld_blt I hg hm boot_range (PyProof.Rows.callWith_type1 (thn (ha pos pins s σ H _ I h) fun us s1 ⟨vs, H1, I1, r1, q1⟩ => ?_) (by rw [hs, hs2]) (by rw [hs2]; rfl)))
  obtain ⟨i, j, e, ⟨q1, q2, q3, q4⟩, q⟩ := q1
  subst e
  cases r1 with
  | cons r rr =>
    cases rr with
    | cons r' rr =>
      cases rr
      obtain ⟨t, rfl⟩ := r
      obtain ⟨t', rfl⟩ := r'
      exact call_range_2 (range_it I1 q1 q2 q3 q4 q)

/-! ### for -/
/-- W: the invariant by the turn and a measure; N: what the body is to reach -/
def tFor (wi : TI) (g : TG) (tb : TS) : TS := fun D σ H => wi σ H fun J H1 => ∃ W : Nat → Nat → St → Hp → Prop, (∃ m, W 0 m σ H1) ∧ ∀ i m σ H, W i m σ H →
  (J.stop i H ∧ D.nx σ H) ∨ (J.go i H ∧ ∃ N : St → Hp → Prop, (∀ σ' H', N σ' H' → ∃ m', m' < m ∧ W (i + 1) m' σ' H') ∧ ∀ x H', J.yld i H x H' → g x σ H' fun σ2 H2 => tb { D with nx := N, ct := N, bk := D.nx } σ2 H2)
/-- the records at fp as they stand -/
def pinsAt (fp : List Addr) (h : Heap) : List (Addr × Obj) := fp.filterMap fun b => (h.get? b).map fun o => (b, o)
theorem mem_pinsAt {fp : List Addr} {h : Heap} {b : Addr} {o : Obj} (hb : b ∈ fp) (e : h.get? b = some o) : (b, o) ∈ pinsAt fp h := List.mem_filterMap.mpr ⟨b, hb, by rw [e]; rfl⟩
theorem of_pinsAt {fp : List Addr} {h : Heap} {p : Addr × Obj} (hp : p ∈ pinsAt fp h) : p.1 ∈ fp ∧ h.get? p.1 = some p.2 := by
  obtain ⟨b, hb, e⟩ := List.mem_filterMap.mp hp
  cases q : h.get? b with
  | none => rw [q] at e; cases e
  | some o =>
    rw [q] at e
    have e' : (b, o) = p := Option.some.inj e
    subst e'
    exact ⟨hb, q⟩
theorem Inv.pinned {pins : List (Addr × Obj)} {σ : St} {H : Hp} {s : Shared} {fp : List Addr} (I : Inv X pins σ H s) (hf : ∀ b ∈ fp, FpOk X pins H b) (ho : ∀ b ∈ fp, ∃ o, s.heap.get? b = some o ∧ ∀ v, o.data ≠ .cell v) : Inv X (pins ++ pinsAt fp s.heap) σ H s :=
  I.pins_of fun p hp => (List.mem_append.mp hp).elim (fun z => I.pin p (List.mem_append_right _ z)) fun z => by
    obtain ⟨hb, e⟩ := of_pinsAt z
    obtain ⟨f0, f1, f2, _⟩ := hf p.1 hb
    obtain ⟨o, e', d⟩ := ho p.1 hb
    rw [e] at e'; cases e'
    exact ⟨e, f0, f1, f2, d⟩
theorem Inv.unpinned {pins pl : List (Addr × Obj)} {σ : St} {H : Hp} {s : Shared} (I : Inv X (pins ++ pl) σ H s) : Inv X pins σ H s := I.pins_of fun p hp => I.pin p (List.mem_append_right _ (List.mem_append_left _ hp))
theorem ps_for {iter : Expr} {body : List Stmt} {wi : TI} {g : TG} {tb : TS} {pos : Pos} (hp : PassesOwn (model X.prog X.w) X.A X.env X.xe) (hc : X.calm = true) (hi : PI X tg iter wi) (hg : PG X tg g) (hb : PSs X body tb)
    (hs : ∀ x, foldedSetIterable iter X.env x = pure x := by intro _; rfl) : PS X (.For tg iter body [] pos) (tFor wi g tb) := by
  intro pins s σ H D I h
  refine wpAny_For (thn (hi pins s σ H _ I h) fun v s1 h1 => thn h1 fun itv s2 h2 => ?_) hs
  obtain ⟨it, fp, tn, J, H2, e, I2, T, st2, f2, W, ⟨m0, w0⟩, turn⟩ := h2
  subst e
  -- what stays true of the iterator's objects through the loop
  have stat : ∀ {H' : Hp}, (∀ b ∈ fp, H' b = none) → ∀ b ∈ fp, FpOk X pins H' b := fun hn b hb => ⟨hn b hb, (f2 b hb).2⟩
  refine codeAny_forLoop_any (fun n s' => ∃ i σ' H', Inv X pins σ' H' s' ∧ tn i s'.heap ∧ (∀ b ∈ fp, H' b = none) ∧ W i n σ' H') ?_ m0 ⟨0, σ, H2, I2, st2, fun b hb => (f2 b hb).1, w0⟩
  rintro n s3 ⟨i, σ3, H3, I3, st3, fr3, w3⟩
  rcases turn i n σ3 H3 w3 with ⟨stop, qn⟩ | ⟨go, N, hN, step⟩
  · refine wpAny_passesOwn hp (thn (T.done X rfl rfl rfl hc i pins s3 σ3 H3 X.xe I3 (stat fr3) st3 stop) fun r s4 ⟨hr, I4⟩ => ?_)
    subst hr
    exact wpAny_execs_nil ⟨σ3, H3, I4, qn⟩
  · refine wpAny_passesOwn hp (thn (T.item X rfl rfl rfl hc i pins s3 σ3 H3 X.xe I3 (stat fr3) st3 go) fun r s4 ⟨u, hr, h4⟩ => ?_)
    subst hr
    refine wpAny_passesOwn hp (thn h4 fun _ s5 ⟨x, H5, I5, r5, y5, st5, fr5⟩ => ?_)
    have I5' := I5.pinned (stat fr5) (T.obj _ _ st5)
    refine wpAny_passesOwn hp (thn (hg _ s5 σ3 H5 x u _ I5' r5 (step x H5 y5)) fun _ s6 ⟨σ6, H6, I6, q6⟩ => ?_)
    refine wpAny_passesOwn hp (thn (hb _ s6 σ6 H6 _ I6 q6) fun f s7 q7 => ?_)
    have again : ∀ {σ7 : St} {H7 : Hp}, Inv X (pins ++ pinsAt fp s5.heap) σ7 H7 s7 → N σ7 H7 → ∃ m, m < n ∧ ∃ i σ' H', Inv X pins σ' H' s7 ∧ tn i s7.heap ∧ (∀ b ∈ fp, H' b = none) ∧ W i m σ' H' := fun {σ7 H7} I7 n7 => by
      obtain ⟨m', hm, w7⟩ := hN σ7 H7 n7
      refine ⟨m', hm, i + 1, σ7, H7, I7.unpinned, T.keep _ _ _ st5 fun b hb o e => (I7.pin (b, o) (List.mem_append_right _ (List.mem_append_right _ (mem_pinsAt hb e)))).1, fun b hb => ?_, w7⟩
      obtain ⟨o, e, d⟩ := T.obj _ _ st5 b hb
      exact (I7.pin (b, o) (List.mem_append_right _ (List.mem_append_right _ (mem_pinsAt hb e)))).2.1
    cases f with
    | next => obtain ⟨σ7, H7, I7, n7⟩ := q7; exact again I7 n7
    | cont => obtain ⟨σ7, H7, I7, n7⟩ := q7; exact again I7 n7
    | brk => obtain ⟨σ7, H7, I7, q7⟩ := q7; exact ⟨σ7, H7, I7.unpinned, q7⟩
    | ret v => obtain ⟨x7, σ7, H7, I7, r7, q7⟩ := q7; exact ⟨x7, σ7, H7, I7.unpinned, r7, q7⟩
end

/-! ### the forms one uses -/
/-- over a list that the body leaves as it is -/
theorem for_list {K : PySem.W.Frag} {a : Addr} {xs : List V} {g : TG} {tb : TS} {D : Ends} {σ : St} {H : Hp} (Pv : Nat → St → Hp → Prop) (h0 : Pv 0 σ H) (hl : ∀ i σ H, i ≤ xs.length → Pv i σ H → SqL K H a xs)
    (hs : ∀ i x σ H, xs[i]? = some x → Pv i σ H → g x σ H fun σ2 H2 => tb { D with nx := Pv (i + 1), ct := Pv (i + 1), bk := D.nx } σ2 H2) (hd : ∀ σ H, Pv xs.length σ H → D.nx σ H) :
    ∃ W : Nat → Nat → St → Hp → Prop, (∃ m, W 0 m σ H) ∧ ∀ i m σ H, W i m σ H →
      ((Itl K a).stop i H ∧ D.nx σ H) ∨ ((Itl K a).go i H ∧ ∃ N : St → Hp → Prop, (∀ σ' H', N σ' H' → ∃ m', m' < m ∧ W (i + 1) m' σ' H') ∧ ∀ x H', (Itl K a).yld i H x H' → g x σ H' fun σ2 H2 => tb { D with nx := N, ct := N, bk := D.nx } σ2 H2) := by
  refine ⟨fun i m σ H => m = xs.length - i ∧ i ≤ xs.length ∧ Pv i σ H, ⟨xs.length, by simp, Nat.zero_le _, h0⟩, ?_⟩
  rintro i m σ H ⟨rfl, hi, p⟩
  have q := hl i σ H hi p
  by_cases hlt : i < xs.length
  · refine .inr ⟨⟨xs, xs[i], q, by simp [hlt]⟩, Pv (i + 1), fun σ' H' p' => ⟨xs.length - (i + 1), by omega, rfl, hlt, p'⟩, fun x H' y => ?_⟩
    obtain ⟨e, y⟩ := y
    subst e
    exact hs i x σ _ (y xs q) p
  · have e : i = xs.length := by omega
    subst e
    exact .inl ⟨⟨xs, q, Nat.le_refl _⟩, hd σ H p⟩
theorem for_tup {K : PySem.W.Frag} {a : Addr} {xs : List V} {g : TG} {tb : TS} {D : Ends} {σ : St} {H : Hp} (Pv : Nat → St → Hp → Prop) (h0 : Pv 0 σ H) (hl : ∀ i σ H, i ≤ xs.length → Pv i σ H → SqT K H a xs)
    (hs : ∀ i x σ H, xs[i]? = some x → Pv i σ H → g x σ H fun σ2 H2 => tb { D with nx := Pv (i + 1), ct := Pv (i + 1), bk := D.nx } σ2 H2) (hd : ∀ σ H, Pv xs.length σ H → D.nx σ H) :
    ∃ W : Nat → Nat → St → Hp → Prop, (∃ m, W 0 m σ H) ∧ ∀ i m σ H, W i m σ H →
      ((Itt K a).stop i H ∧ D.nx σ H) ∨ ((Itt K a).go i H ∧ ∃ N : St → Hp → Prop, (∀ σ' H', N σ' H' → ∃ m', m' < m ∧ W (i + 1) m' σ' H') ∧ ∀ x H', (Itt K a).yld i H x H' → g x σ H' fun σ2 H2 => tb { D with nx := N, ct := N, bk := D.nx } σ2 H2) := by
  refine ⟨fun i m σ H => m = xs.length - i ∧ i ≤ xs.length ∧ Pv i σ H, ⟨xs.length, by simp, Nat.zero_le _, h0⟩, ?_⟩
  rintro i m σ H ⟨rfl, hi, p⟩
  have q := hl i σ H hi p
  by_cases hlt : i < xs.length
  · refine .inr ⟨⟨xs, xs[i], q, by simp [hlt]⟩, Pv (i + 1), fun σ' H' p' => ⟨xs.length - (i + 1), by omega, rfl, hlt, p'⟩, fun x H' y => ?_⟩
    obtain ⟨e, y⟩ := y
    subst e
    exact hs i x σ _ (y xs q) p
  · have e : i = xs.length := by omega
    subst e
    exact .inl ⟨⟨xs, q, Nat.le_refl _⟩, hd σ H p⟩
theorem for_range {lo : Int} {n : Nat} {g : TG} {tb : TS} {D : Ends} {σ : St} {H : Hp} (Pv : Nat → St → Hp → Prop) (h0 : Pv 0 σ H)
    (hs : ∀ i σ H, i < n → Pv i σ H → g (.int (lo + i)) σ H fun σ2 H2 => tb { D with nx := Pv (i + 1), ct := Pv (i + 1), bk := D.nx } σ2 H2) (hd : ∀ σ H, Pv n σ H → D.nx σ H) :
    ∃ W : Nat → Nat → St → Hp → Prop, (∃ m, W 0 m σ H) ∧ ∀ i m σ H, W i m σ H →
      ((Itr lo n).stop i H ∧ D.nx σ H) ∨ ((Itr lo n).go i H ∧ ∃ N : St → Hp → Prop, (∀ σ' H', N σ' H' → ∃ m', m' < m ∧ W (i + 1) m' σ' H') ∧ ∀ x H', (Itr lo n).yld i H x H' → g x σ H' fun σ2 H2 => tb { D with nx := N, ct := N, bk := D.nx } σ2 H2) := by
  refine ⟨fun i m σ H => m = n - i ∧ i ≤ n ∧ Pv i σ H, ⟨n, by simp, Nat.zero_le _, h0⟩, ?_⟩
  rintro i m σ H ⟨rfl, hi, p⟩
  by_cases hlt : i < n
  · refine .inr ⟨hlt, Pv (i + 1), fun σ' H' p' => ⟨n - (i + 1), by omega, rfl, hlt, p'⟩, fun x H' y => ?_⟩
    obtain ⟨e, y⟩ := y
    subst e y
    exact hs i σ _ hlt p
  · have e : i = n := by omega
    subst e
    exact .inl ⟨Nat.le_refl _, hd σ H p⟩
end L2

namespace L2
open PySem PySem.Spec PyProof.Rows

abbrev R2 := V → V → Hp → VK → Prop
/-- a two-place operation on values: f is binaryOp op, inplaceOp op or compareOp op -/
def OpR (X : Cx) (f : Value → Value → Sem Value) (r : R2) : Prop :=
  ∀ (pins : List (Addr × Obj)) (s : Shared) (σ : St) (H : Hp) (x y : V) (v u : Value) (Q : VK), Inv X pins σ H s → RelV x v → RelV y u → r x y H Q →
    wpAny (model X.prog X.w) X.A (f v u) (EP X pins σ Q) X.xe s
/-- a one-place operation -/
def UnR (X : Cx) (f : Value → Sem Value) (r : V → Hp → VK → Prop) : Prop :=
  ∀ (pins : List (Addr × Obj)) (s : Shared) (σ : St) (H : Hp) (x : V) (v : Value) (Q : VK), Inv X pins σ H s → RelV x v → r x H Q →
    wpAny (model X.prog X.w) X.A (f v) (EP X pins σ Q) X.xe s
/-- a call of a value that is known (a builtin, a type) with values -/
def CallR (X : Cx) (f : Value) (r : List V → Hp → VK → Prop) : Prop :=
  ∀ (pins : List (Addr × Obj)) (s : Shared) (σ : St) (H : Hp) (xs : List V) (us : List Value) (Q : VK), Inv X pins σ H s → Vals xs us → r xs H Q →
    wpAny (model X.prog X.w) X.A (call f us) (EP X pins σ Q) X.xe s
/-- a value's truth -/
def TruR (X : Cx) (r : V → Hp → (Bool → Hp → Prop) → Prop) : Prop :=
  ∀ (pins : List (Addr × Obj)) (s : Shared) (σ : St) (H : Hp) (x : V) (v : Value) (Q : Bool → Hp → Prop), Inv X pins σ H s → RelV x v → r x H Q →
    wpAny (model X.prog X.w) X.A (truthy v) (TP X pins σ Q) X.xe s

def tOp (r : R2) (ta tb : TE) : TE := fun σ H Q => ta σ H fun x H1 => tb σ H1 fun y H2 => r x y H2 Q
def tUn (r : V → Hp → VK → Prop) (ta : TE) : TE := fun σ H Q => ta σ H fun x H1 => r x H1 Q
/-- ints in, under C, and a value out -/
def rI (C : Int → Int → Prop) (g : Int → Int → V) : R2 := fun x y H Q => ∃ i j, x = .int i ∧ y = .int j ∧ C i j ∧ Q (g i j) H
def rI0 (g : Int → Int → V) : R2 := fun x y H Q => ∃ i j, x = .int i ∧ y = .int j ∧ Q (g i j) H
def rU (g : Int → V) : V → Hp → VK → Prop := fun x H Q => ∃ i, x = .int i ∧ Q (g i) H

section
variable {X : Cx} {a b c : Expr} {ta tb tc : TE} {pos : Pos}

theorem binT (ha : PE X a ta) (hb : PE X b tb) {pins : List (Addr × Obj)} {s : Shared} {σ : St} {H : Hp} {R : V → V → Hp → Prop} (I : Inv X pins σ H s)
    (h : ta σ H fun x H1 => tb σ H1 fun y H2 => R x y H2) {Q : Value → Shared → Prop} {f : Value → Value → Sem Value}
    (hf : ∀ v u s2 x y H2, Inv X pins σ H2 s2 → RelV x v → RelV y u → R x y H2 → wpAny (model X.prog X.w) X.A (f v u) Q X.xe s2) :
    wpAny (model X.prog X.w) X.A (eval a X.env) (fun v s₁ => wpAny (model X.prog X.w) X.A (eval b X.env) (fun u s₂ => wpAny (model X.prog X.w) X.A (f v u) Q X.xe s₂) X.xe s₁) X.xe s := by
  refine thn (ha pins s σ H _ I h) fun v s1 ⟨x, H1, I1, r1, q1⟩ => ?_
  refine thn (hb pins s1 σ H1 _ I1 q1) fun u s2 ⟨y, H2, I2, r2, q2⟩ => ?_
  exact hf v u s2 x y H2 I2 r1 r2 q2

theorem pe_op {op : Operator} {r : R2} (ho : OpR X (binaryOp op) r) (ha : PE X a ta) (hb : PE X b tb) : PE X (.BinOp a op b pos) (tOp r ta tb) := by
  intro pins s σ H Q I h
  exact wpAny_BinOp (binT ha hb I h fun v u s2 x y H2 I2 rx ry q => ho pins s2 σ H2 x y v u Q I2 rx ry q)
theorem pe_un {op : UnaryOp} {r : V → Hp → VK → Prop} (ho : UnR X (unaryOp op) r) (ha : PE X a ta) : PE X (.UnaryOp op a pos) (tUn r ta) := by
  intro pins s σ H Q I h
  exact UnaryOp_ (thn (ha pins s σ H _ I h) fun v s1 ⟨x, H1, I1, r1, q1⟩ => ho pins s1 σ H1 x v Q I1 r1 q1)

/-! ### ints -/
theorem opI {f : Value → Value → Sem Value} {C : Int → Int → Prop} {g : Int → Int → Int}
    (rule : ∀ (i j : Int) (t u : Tok) (s : Shared) (Q : Value → Shared → Prop) (E : Value → Shared → Prop), C i j → Q (.int (g i j) s.toks) { s with toks := s.toks + 1 } → wpAny (model X.prog X.w) X.A (f (.int i t) (.int j u)) Q E s) :
    OpR X f (rI C fun i j => .int (g i j)) := by
  intro pins s σ H x y v u Q I rx ry h
  obtain ⟨i, j, rfl, rfl, hc, q⟩ := h
  obtain ⟨t, rfl⟩ := rx
  obtain ⟨t', rfl⟩ := ry
  exact rule i j t t' s _ _ hc ⟨.int (g i j), H, I.tok _, ⟨_, rfl⟩, q⟩
theorem opI0 {f : Value → Value → Sem Value} {g : Int → Int → Int}
    (rule : ∀ (i j : Int) (t u : Tok) (s : Shared) (Q : Value → Shared → Prop) (E : Value → Shared → Prop), Q (.int (g i j) s.toks) { s with toks := s.toks + 1 } → wpAny (model X.prog X.w) X.A (f (.int i t) (.int j u)) Q E s) :
    OpR X f (rI0 fun i j => .int (g i j)) := by
  intro pins s σ H x y v u Q I rx ry h
  obtain ⟨i, j, rfl, rfl, q⟩ := h
  obtain ⟨t, rfl⟩ := rx
  obtain ⟨t', rfl⟩ := ry
  exact rule i j t t' s _ _ ⟨.int (g i j), H, I.tok _, ⟨_, rfl⟩, q⟩
theorem opB0 {f : Value → Value → Sem Value} {g : Int → Int → Bool}
    (rule : ∀ (i j : Int) (t u : Tok) (s : Shared) (Q : Value → Shared → Prop) (E : Value → Shared → Prop), Q (.bool (g i j)) s → wpAny (model X.prog X.w) X.A (f (.int i t) (.int j u)) Q E s) :
    OpR X f (rI0 fun i j => .bl (g i j)) := by
  intro pins s σ H x y v u Q I rx ry h
  obtain ⟨i, j, rfl, rfl, q⟩ := h
  obtain ⟨t, rfl⟩ := rx
  obtain ⟨t', rfl⟩ := ry
  exact rule i j t t' s _ _ ⟨.bl (g i j), H, I, rfl, q⟩

def CDiv (i j : Int) : Prop := 0 < j ∧ j < 1073741824
def CDivN (i j : Int) : Prop := j ≠ 0 ∧ j.natAbs < 1073741824
def CPow (i j : Int) : Prop := 0 ≤ j ∧ j ≤ 1000000 ∧ i.natAbs < 2 ^ 64
def CMul (i j : Int) : Prop := (-(2 ^ 64) < i ∧ i < 2 ^ 64) ∨ (-(2 ^ 64) < j ∧ j < 2 ^ 64)
theorem CMul.ok {i j : Int} (h : CMul i j) : IntMulOk i j := by
  rcases h with ⟨h1, h2⟩ | ⟨h1, h2⟩
  · exact .of_left (intBits_le_64 h1 h2)
  · exact .of_right (intBits_le_64 h1 h2)

theorem op_add : OpR X (binaryOp .Add) (rI0 fun i j => .int (i + j)) := opI0 fun _ _ _ _ _ _ _ q => add_int q
theorem op_sub : OpR X (binaryOp .Sub) (rI0 fun i j => .int (i - j)) := opI0 fun _ _ _ _ _ _ _ q => sub_int q
theorem op_mul : OpR X (binaryOp .Mult) (rI CMul fun i j => .int (i * j)) := opI fun _ _ _ _ _ _ _ hc q => mul_int q hc.ok
/-- // by a positive divisor -/
theorem op_fdiv : OpR X (binaryOp .FloorDiv) (rI CDiv fun i j => .int (i / j)) := opI fun i j _ _ _ _ _ hc q => by
  have h1 : (0 : Int) < j := hc.1
  have h2 : j < 1073741824 := hc.2
  exact floordiv_int (by omega) (by rw [Int.fdiv_eq_ediv_of_nonneg i (by omega)]; exact q) (.inl (PyProof.noPylong_small (by omega)))
/-- % by a positive divisor of any size -/
theorem op_mod : OpR X (binaryOp .Mod) (rI (fun _ j => 0 < j) fun i j => .int (i % j)) := opI fun i j _ _ _ _ _ hc q => by
  have h1 : (0 : Int) < j := hc
  exact mod_int' (by omega) (by rw [Int.fmod_eq_emod_of_nonneg i (by omega)]; exact q)
theorem op_pow : OpR X (binaryOp .Pow) (rI CPow fun i j => .int (i ^ j.toNat)) := opI fun _ _ _ _ _ _ _ hc q => pow_int_small hc.1 hc.2.1 hc.2.2 q


theorem unI {f : Value → Sem Value} {g : Int → Int}
    (rule : ∀ (i : Int) (t : Tok) (s : Shared) (Q : Value → Shared → Prop) (E : Value → Shared → Prop), Q (.int (g i) s.toks) { s with toks := s.toks + 1 } → wpAny (model X.prog X.w) X.A (f (.int i t)) Q E s) :
    UnR X f (rU fun i => .int (g i)) := by
  intro pins s σ H x v Q I rx h
  obtain ⟨i, rfl, q⟩ := h
  obtain ⟨t, rfl⟩ := rx
  exact rule i t s _ _ ⟨.int (g i), H, I.tok _, ⟨_, rfl⟩, q⟩
theorem un_neg : UnR X (unaryOp .USub) (rU fun i => .int (-i)) := unI fun _ _ _ _ _ q => neg_int q

/-! ### bools among ints: n += (a < b) -/
end

/-! ### comparisons -/
/-- the scalars that == tells apart as data does -/
def scal : V → V → Bool
  | .non, .non => true | .non, .int _ => true | .int _, .non => true | .non, .bl _ => true | .bl _, .non => true | .non, .str _ => true | .str _, .non => true
  | .int _, .int _ => true | .bl _, .bl _ => true | .str _, .str _ => true | .byt _, .byt _ => true
  | .int _, .str _ => true | .str _, .int _ => true | .bl _, .str _ => true | .str _, .bl _ => true
  | _, _ => false
def rEq : R2 := fun x y H Q => scal x y = true ∧ Q (.bl (decide (x = y))) H
def rNe : R2 := fun x y H Q => scal x y = true ∧ Q (.bl (!decide (x = y))) H

theorem dec_int {i j : Int} : decide (V.int i = V.int j) = (i == j) := by
  rw [Bool.eq_iff_iff]
  simp
theorem dec_bl {i j : Bool} : decide (V.bl i = V.bl j) = (i == j) := by
  rw [Bool.eq_iff_iff]
  simp
theorem dec_str {i j : Str} : decide (V.str i = V.str j) = (i == j) := by
  rw [Bool.eq_iff_iff]
  simp
theorem dec_byt {i j : Array UInt8} : decide (V.byt i = V.byt j) = (i.toList == j.toList) := by
  rw [Bool.eq_iff_iff]
  cases i
  cases j
  simp

section
variable {X : Cx} {a b c : Expr} {ta tb tc : TE} {pos : Pos}
theorem fin_bl {pins : List (Addr × Obj)} {σ : St} {H : Hp} {s : Shared} {Q : VK} {k k' : Bool} (I : Inv X pins σ H s) (q : Q (.bl k) H) (e : k = k') : EP X pins σ Q (.bool k') s := by
  subst e
  exact ⟨.bl k, H, I, rfl, q⟩
theorem op_eq : OpR X (compareOp .Eq) rEq := by
  intro pins s σ H x y v u Q I rx ry h
  obtain ⟨hs, q⟩ := h
  cases x with
  | non =>
    cases rx
    cases y with
    | non => cases ry; exact PySem.EqNone.eq_none_none (fin_bl I q (by simp))
    | bl j => cases ry; exact PySem.EqNone.eq_none_bool (fin_bl I q (by simp))
    | int j => obtain ⟨t', rfl⟩ := ry; exact PySem.EqNone.eq_none_int (fin_bl I q (by simp))
    | str j => obtain ⟨t', rfl⟩ := ry; exact PySem.EqNone.eq_none_str (fin_bl I q (by simp))
    | _ => exact absurd (show false = true from hs) Bool.false_ne_true
  | bl i =>
    cases rx
    cases y with
    | non => cases ry; exact PySem.EqNone.eq_bool_none (fin_bl I q (by simp))
    | bl j => cases ry; exact eq_bool (fin_bl I q dec_bl)
    | str j => obtain ⟨t', rfl⟩ := ry; exact PySem.EqMixed.eq_bool_str (fin_bl I q (by simp))
    | _ => exact absurd (show false = true from hs) Bool.false_ne_true
  | int i =>
    obtain ⟨t, rfl⟩ := rx
    cases y with
    | non => cases ry; exact PySem.EqNone.eq_int_none (fin_bl I q (by simp))
    | int j => obtain ⟨t', rfl⟩ := ry; exact eq_int (fin_bl I q dec_int)
    | str j => obtain ⟨t', rfl⟩ := ry; exact PySem.EqMixed.eq_int_str (fin_bl I q (by simp))
    | _ => exact absurd (show false = true from hs) Bool.false_ne_true
  | str i =>
    obtain ⟨t, rfl⟩ := rx
    cases y with
    | non => cases ry; exact PySem.EqNone.eq_str_none (fin_bl I q (by simp))
    | bl j => cases ry; exact PySem.EqMixed.eq_str_bool (fin_bl I q (by simp))
    | int j => obtain ⟨t', rfl⟩ := ry; exact PySem.EqMixed.eq_str_int (fin_bl I q (by simp))
    | str j => obtain ⟨t', rfl⟩ := ry; exact eq_str (fin_bl I q dec_str)
    | _ => exact absurd (show false = true from hs) Bool.false_ne_true
  | byt i =>
    obtain ⟨t, rfl⟩ := rx
    cases y with
    | byt j => obtain ⟨t', rfl⟩ := ry; exact PySem.W.eq_bytes (fin_bl I q dec_byt)
    | _ => exact absurd (show false = true from hs) Bool.false_ne_true
  | _ => cases y <;> exact absurd (show false = true from hs) Bool.false_ne_true
theorem op_ne : OpR X (compareOp .NotEq) rNe := by
  intro pins s σ H x y v u Q I rx ry h
  obtain ⟨hs, q⟩ := h
  cases x with
  | non =>
    cases rx
    cases y with
    | non => cases ry; exact PySem.EqNone.ne_none_none (fin_bl I q (by simp))
    | bl j => cases ry; exact PySem.EqNone.ne_none_bool (fin_bl I q (by simp))
    | int j => obtain ⟨t', rfl⟩ := ry; exact PySem.EqNone.ne_none_int (fin_bl I q (by simp))
    | str j => obtain ⟨t', rfl⟩ := ry; exact PySem.EqNone.ne_none_str (fin_bl I q (by simp))
    | _ => exact absurd (show false = true from hs) Bool.false_ne_true
  | bl i =>
    cases rx
    cases y with
    | non => cases ry; exact PySem.EqNone.ne_bool_none (fin_bl I q (by simp))
    | bl j => cases ry; exact ne_bool (fin_bl I q (congrArg not dec_bl))
    | str j => obtain ⟨t', rfl⟩ := ry; exact PySem.EqMixed.ne_bool_str (fin_bl I q (by simp))
    | _ => exact absurd (show false = true from hs) Bool.false_ne_true
  | int i =>
    obtain ⟨t, rfl⟩ := rx
    cases y with
    | non => cases ry; exact PySem.EqNone.ne_int_none (fin_bl I q (by simp))
    | int j => obtain ⟨t', rfl⟩ := ry; exact ne_int (fin_bl I q (congrArg not dec_int))
    | str j => obtain ⟨t', rfl⟩ := ry; exact PySem.EqMixed.ne_int_str (fin_bl I q (by simp))
    | _ => exact absurd (show false = true from hs) Bool.false_ne_true
  | str i =>
    obtain ⟨t, rfl⟩ := rx
    cases y with
    | non => cases ry; exact PySem.EqNone.ne_str_none (fin_bl I q (by simp))
    | bl j => cases ry; exact PySem.EqMixed.ne_str_bool (fin_bl I q (by simp))
    | int j => obtain ⟨t', rfl⟩ := ry; exact PySem.EqMixed.ne_str_int (fin_bl I q (by simp))
    | str j => obtain ⟨t', rfl⟩ := ry; exact ne_str (fin_bl I q (congrArg not dec_str))
    | _ => exact absurd (show false = true from hs) Bool.false_ne_true
  | byt i =>
    obtain ⟨t, rfl⟩ := rx
    cases y with
    | byt j => obtain ⟨t', rfl⟩ := ry; exact PySem.W.ne_bytes (fin_bl I q (congrArg not dec_byt))
    | _ => exact absurd (show false = true from hs) Bool.false_ne_true
  | _ => cases y <;> exact absurd (show false = true from hs) Bool.false_ne_true

theorem op_lt : OpR X (compareOp .Lt) (rI0 fun i j => .bl (decide (i < j))) := opB0 fun _ _ _ _ _ _ _ q => lt_int q
theorem op_le : OpR X (compareOp .LtE) (rI0 fun i j => .bl (decide (i ≤ j))) := opB0 fun _ _ _ _ _ _ _ q => le_int q
theorem op_gt : OpR X (compareOp .Gt) (rI0 fun i j => .bl (decide (j < i))) := opB0 fun _ _ _ _ _ _ _ q => gt_int q
theorem op_ge : OpR X (compareOp .GtE) (rI0 fun i j => .bl (decide (j ≤ i))) := opB0 fun _ _ _ _ _ _ _ q => ge_int q


/-- is, is not of two objects that are tracked lists or instances -/
def isObj : HO → Bool
  | .lst _ => true
  | .ins _ _ _ => true
  | _ => false


theorem nomark (b : Expr) {op : CmpOp} (h : op ≠ .In := by decide) (h2 : op ≠ .NotIn := by decide) : behindInMarks op b = false := by
  have e1 : (op == CmpOp.In) = false := by cases op <;> first | rfl | exact absurd rfl h
  have e2 : (op == CmpOp.NotIn) = false := by cases op <;> first | rfl | exact absurd rfl h2
  cases b <;> simp [behindInMarks, e1, e2]
/-- a comparison as a value; hm: nomark b, or (for in, not in) by with_unfolding_all rfl -/
theorem pe_cmpR {op : CmpOp} {r : R2} (ho : OpR X (compareOp op) r) (ha : PE X a ta) (hb : PE X b tb) (hm : behindInMarks op b = false) : PE X (.Compare a [op] [b] pos) (tOp r ta tb) := by
  intro pins s σ H Q I h
  exact wpAny_Compare1 (binT ha hb I h fun v u s2 x y H2 I2 rx ry q => ho pins s2 σ H2 x y v u Q I2 rx ry q) hm
/-- a reading of a value as a test -/
def tTest (t : TE) : TT := fun σ H Q => t σ H fun x H' => ∃ k, x = .bl k ∧ Q k H'
theorem pt_cmpR {op : CmpOp} {r : R2} (ho : OpR X (compareOp op) r) (ha : PE X a ta) (hb : PE X b tb) (hm : behindInMarks op b = false) : PT X (.Compare a [op] [b] pos) (tTest (tOp r ta tb)) := by
  intro pins s σ H Q I h
  refine wpAny_isTrue_Compare1 (thn (ha pins s σ H _ I h) fun v s1 ⟨x, H1, I1, r1, q1⟩ => thn (hb pins s1 σ H1 _ I1 q1) fun u s2 ⟨y, H2, I2, r2, q2⟩ =>
    thn (ho pins s2 σ H2 x y v u _ I2 r1 r2 q2) fun c s3 ⟨z, H3, I3, r3, k, e, q3⟩ => ?_) hm
  subst e
  cases r3
  exact wpAny_truthy_bool ⟨H3, I3, q3⟩
/-- a op1 b op2 c -/
def tChain (r r' : R2) (ta tb tc : TE) : TE := fun σ H Q => ta σ H fun x H1 => tb σ H1 fun y H2 => r x y H2 fun z H3 => ∃ k, z = .bl k ∧
  (if k = true then tc σ H3 fun w' H4 => r' y w' H4 Q else Q (.bl false) H3)
theorem pe_chain {op op' : CmpOp} {r r' : R2} (ho : OpR X (compareOp op) r) (ho' : OpR X (compareOp op') r') (ha : PE X a ta) (hb : PE X b tb) (hc : PE X c tc)
    (hm : lastMarks [op, op'] [b, c] = false := by with_unfolding_all rfl) : PE X (.Compare a [op, op'] [b, c] pos) (tChain r r' ta tb tc) := by
  intro pins s σ H Q I h
  refine Compare_chain (thn (ha pins s σ H _ I h) fun v s1 ⟨x, H1, I1, r1, q1⟩ => chain_link (thn (hb pins s1 σ H1 _ I1 q1) fun u s2 ⟨y, H2, I2, r2, q2⟩ =>
    thn (ho pins s2 σ H2 x y v u _ I2 r1 r2 q2) fun d s3 ⟨z, H3, I3, r3, k, e, q3⟩ => ?_)) hm
  subst e
  cases r3
  refine wpAny_truthy_bool ?_
  cases k with
  | false => exact ite_ff ⟨.bl false, H3, I3, rfl, q3⟩
  | true => exact ite_tt (chain_last (thn (hc pins s3 σ H3 _ I3 q3) fun w' s4 ⟨z', H4, I4, r4, q4⟩ => ho' pins s4 σ H4 y z' u w' Q I4 r2 r4 q4))
theorem pt_chain {op op' : CmpOp} {r r' : R2} (ho : OpR X (compareOp op) r) (ho' : OpR X (compareOp op') r') (ha : PE X a ta) (hb : PE X b tb) (hc : PE X c tc)
    (hm : lastMarks [op, op'] [b, c] = false := by with_unfolding_all rfl) : PT X (.Compare a [op, op'] [b, c] pos) (tTest (tChain r r' ta tb tc)) := by
  intro pins s σ H Q I h
  refine isTrue_chain (thn (ha pins s σ H _ I h) fun v s1 ⟨x, H1, I1, r1, q1⟩ => test_link (thn (hb pins s1 σ H1 _ I1 q1) fun u s2 ⟨y, H2, I2, r2, q2⟩ =>
    thn (ho pins s2 σ H2 x y v u _ I2 r1 r2 q2) fun d s3 ⟨z, H3, I3, r3, k, e, q3⟩ => ?_)) hm
  subst e
  cases r3
  refine wpAny_truthy_bool ?_
  cases k with
  | false =>
    obtain ⟨k', e', q'⟩ := q3
    cases e'
    exact ite_ff ⟨H3, I3, q'⟩
  | true =>
    refine ite_tt (test_last (thn (hc pins s3 σ H3 _ I3 q3) fun w' s4 ⟨z', H4, I4, r4, q4⟩ => thn (ho' pins s4 σ H4 y z' u w' _ I4 r2 r4 q4) fun d' s5 ⟨z2, H5, I5, r5, k2, e2, q5⟩ => ?_))
    subst e2
    cases r5
    exact wpAny_truthy_bool ⟨H5, I5, q5⟩

/-! ### truth -/
/-- a value's truth by the abstract heap -/
def TruV (K : PySem.W.Frag) (x : V) (H : Hp) (k : Bool) : Prop :=
  match x with
  | .non => k = false
  | .bl b => k = b
  | .int i => k = (i != 0)
  | .str y => y.length ≤ sizeLine ∧ k = ((y.length : Int) != 0)
  | .byt y => y.size ≤ sizeLine ∧ k = ((y.size : Int) != 0)
  | .ref p => (∃ xs, SqL K H p xs ∧ k = !xs.isEmpty) ∨ (∃ xs, SqT K H p xs ∧ k = !xs.isEmpty) ∨ ∃ kvs, H p = some (.dK kvs) ∧ k = !kvs.isEmpty
  | _ => False
theorem line63 : (sizeLine : Nat) < 2 ^ 63 := by rw [sizeLine_eq]; decide

/-! ### strs and bytes -/
theorem op_add_str : OpR X (binaryOp .Add) (fun x y H Q => ∃ i j, x = .str i ∧ y = .str j ∧ i.length + j.length ≤ sizeLine ∧ Q (.str (i ++ j)) H) := by
  intro pins s σ H x y v u Q I rx ry h
  obtain ⟨i, j, rfl, rfl, hz, q⟩ := h
  obtain ⟨t, rfl⟩ := rx
  obtain ⟨t', rfl⟩ := ry
  exact add_str (fun t' tk => ⟨.str (i ++ j), H, I.tok _, ⟨_, rfl⟩, q⟩) hz

def PlainIxT (b : Expr) : Prop := ∀ o i, subscripted b false o i = operate [o, i] (getItem o i)

/-! ### scalar builtins, by CallR -/
theorem vals1 {x : V} {us : List Value} (r : Vals [x] us) : ∃ u, us = [u] ∧ RelV x u := by
  cases r with
  | cons r1 r2 => cases r2; exact ⟨_, rfl, r1⟩
theorem vals2 {x y : V} {us : List Value} (r : Vals [x, y] us) : ∃ u w', us = [u, w'] ∧ RelV x u ∧ RelV y w' := by
  cases r with
  | cons r1 r2 =>
    cases r2 with
    | cons r3 r4 => cases r4; exact ⟨_, _, rfl, r1, r3⟩
theorem call_min2 (hc : X.calm = true) : CallR X (.builtin "min") (fun xs H Q => ∃ i j, xs = [.int i, .int j] ∧ Q (.int (if j < i then j else i)) H) := by
  intro pins s σ H xs us Q I r h
  obtain ⟨i, j, rfl, q⟩ := h
  obtain ⟨u, w', rfl, ⟨t, rfl⟩, ⟨t', rfl⟩⟩ := vals2 r
  refine min_two_ints (I.ok.hd hc) fun h' tk k => ⟨_, H, I.kept k, ?_, q⟩
  by_cases hj : j < i
  · rw [if_pos hj, if_pos hj]; exact ⟨_, rfl⟩
  · rw [if_neg hj, if_neg hj]; exact ⟨_, rfl⟩
/-- len of a str, a bytes, a list, a tuple -/
def LenV (K : PySem.W.Frag) (x : V) (H : Hp) (n : Nat) : Prop :=
  match x with
  | .str y => y.length ≤ sizeLine ∧ n = y.length
  | .byt y => y.size ≤ sizeLine ∧ n = y.size
  | .ref p => (∃ xs, SqL K H p xs ∧ n = xs.length) ∨ ∃ xs, SqT K H p xs ∧ n = xs.length
  | _ => False
end
end L2

namespace L2
open PySem PySem.Spec PyProof.Rows

/-! ### an instance, its attributes a map -/
structure ObjM (h : Heap) (x dx C : Addr) (mA : Str → Option Value) : Prop where
  obj : h.get? x = some (PySem.W.instObj C dx)
  ns : h.Ns1 dx mA
  ne : dx ≠ x

theorem lookIn_ns {h : Heap} {dx : Addr} {mA : Str → Option Value} (n : h.Ns1 dx mA) : ∃ od, h.get? dx = some od ∧ ∀ name, PySem.W.lookIn name od = some (mA name) := by
  obtain ⟨o, es, ep, ho, hd, hk, _, hm⟩ := n
  refine ⟨o, ho, fun name => ?_⟩
  have e := hm name
  unfold nsFind findBy at e
  rw [← Array.find?_toList] at e
  unfold PySem.W.lookIn
  rw [hd]
  dsimp only
  split
  · rename_i y q
    rw [q] at e
    exact congrArg some e
  · rename_i q
    rw [q] at e
    have a : es.toList.any (·.refKey) = false := by
      rw [List.any_eq_false]
      intro y hy
      obtain ⟨z, t, hkey⟩ := hk y (Array.mem_toList_iff.mp hy)
      simp [DictEntry.refKey, hkey]
    have a' : ¬ es.toList.any (·.refKey) = true := by rw [a]; exact Bool.false_ne_true
    rw [if_neg a']
    exact congrArg some e

theorem ObjM.look {h : Heap} {x dx C : Addr} {mA : Str → Option Value} (I : ObjM h x dx C mA) : ∃ od, PySem.W.InstAt h x (PySem.W.instObj C dx) C (some od) ∧ ∀ name, PySem.W.lookIn name od = some (mA name) :=
  let ⟨od, ho, hl⟩ := lookIn_ns I.ns
  ⟨od, ⟨I.obj, rfl, rfl, ho⟩, hl⟩

section
variable {prog : Program} {w : World} {A : Around} {E : Value → Shared → Prop} {s : Shared} {K : PySem.W.Frag} {x dx C f : Addr} {mA : Str → Option Value} {name : Str} {v : Value}





end

/-! ### the attributes as a list of pairs -/
def putF (f : Str) (v : V) : List (Str × V) → List (Str × V)
  | [] => [(f, v)]
  | (g, x) :: r => if g = f then (g, v) :: r else (g, x) :: putF f v r


section
variable {P : Program} {w : World} {H H' : Hp} {h h' : Heap} {a C dx : Addr} {fs fs' : List (Str × V)}
theorem ins_get (hok : HOk P w H h) (e : H a = some (.ins C dx fs)) : ∃ mA, ObjM h a dx C mA ∧ (∀ f, RelO (fs.lookup f) (mA f)) ∧ PySem.Within mA (fs.map (·.1)) ∧ fs.length ≤ 1000 ∧ H dx = some (.own a) := by
  obtain ⟨d, z, ne, ob, mA, n, r, q⟩ := (show ObjOk P w H h a (.ins C dx fs) from hok a _ e)
  exact ⟨mA, ⟨ob, n, ne⟩, r, q, z, d⟩
end

/-! ### what of the text a class must have -/
structure Cls (K : PySem.W.Frag) (C : Addr) : Prop where
  pg : PySem.W.plainGet K C Str.empty = true
  hd : PySem.W.hasDictIn K C = true
  po : PySem.W.plainOver K C = true
  sa : PySem.W.findIn K (.ref C) "__setattr__" = some (some (.builtin "object.__setattr__"))
theorem Cls.get {K : PySem.W.Frag} {C : Addr} (c : Cls K C) (f : Str) : PySem.W.plainGet K C f = true := c.pg
/-- no class of it has the name -/
def NoAttr (K : PySem.W.Frag) (C : Addr) (f : Str) : Prop := PySem.W.findIn K (.ref C) f = some none
/-- a constant of the class -/
structure Con (K : PySem.W.Frag) (C : Addr) (f : Str) (v : V) (u : Value) : Prop where
  at_ : PySem.W.findIn K (.ref C) f = some (some u)
  rel : RelV v u
  get : PySem.W.specialIn K u "__get__" = some none
  cp : PySem.W.copiedNames.contains f = false
/-- a method: a plain def of the class or of one above it -/
structure Meth (K : PySem.W.Frag) (C : Addr) (m : Str) (f : Addr) : Prop where
  at_ : PySem.W.findIn K (.ref C) m = some (some (.ref f))
  fn : PySem.W.isFn K (.ref f) = true
  kp : PySem.W.keepIn K (.ref f) = true

section
variable {X : Cx} {pins : List (Addr × Obj)} {σ : St} {H : Hp} {s : Shared} {a C dx : Addr} {fs : List (Str × V)} {f : Str} {v : V} {A : Around} {E : Value → Shared → Prop}






end

/-! ### readings and rules -/
/-- e.f, an attribute of the instance -/
def tFld (K : PySem.W.Frag) (ta : TE) (f : Str) : TE := fun σ H Q => ta σ H fun x H1 => ∃ a C dx fs v, x = .ref a ∧ H1 a = some (.ins C dx fs) ∧ Cls K C ∧ NoAttr K C f ∧ fs.lookup f = some v ∧ Q v H1
/-- e.f, a constant of the class -/
def tCon (K : PySem.W.Frag) (ta : TE) (f : Str) : TE := fun σ H Q => ta σ H fun x H1 => ∃ a C dx fs v u, x = .ref a ∧ H1 a = some (.ins C dx fs) ∧ Cls K C ∧ Con K C f v u ∧ fs.lookup f = none ∧ Q v H1
/-- e.f = value -/
def sFld (K : PySem.W.Frag) (ta tv : TE) (f : Str) : TS := fun D σ H => tv σ H fun y H1 => ta σ H1 fun x H2 => ∃ a C dx fs, x = .ref a ∧ H2 a = some (.ins C dx fs) ∧ Cls K C ∧ NoAttr K C f ∧ fs.length < 1000 ∧
  D.nx σ (upd H2 a (.ins C dx (putF f y fs)))
/-- an augmented operator on two values -/
def InOp (X : Cx) (op : Operator) (rd : V → V → Hp → VK → Prop) : Prop :=
  ∀ (pins : List (Addr × Obj)) (s : Shared) (σ : St) (H : Hp) (x y : V) (u v : Value) (Q : VK), Inv X pins σ H s → RelV x u → RelV y v → rd x y H Q → wpAny (model X.prog X.w) X.A (inplaceOp op u v) (EP X pins σ Q) X.xe s
/-- e.f op= value -/
def sFldAug (K : PySem.W.Frag) (ta tv : TE) (rd : V → V → Hp → VK → Prop) (f : Str) : TS := fun D σ H => ta σ H fun x H1 => ∃ a C dx fs v, x = .ref a ∧ H1 a = some (.ins C dx fs) ∧ Cls K C ∧ NoAttr K C f ∧ fs.lookup f = some v ∧
  tv σ H1 fun y H2 => rd v y H2 fun z H3 => ∃ dx' fs', H3 a = some (.ins C dx' fs') ∧ fs'.length < 1000 ∧ D.nx σ (upd H3 a (.ins C dx' (putF f z fs')))

section
variable {X : Cx} {o e value : Expr} {f : Str} {pos pos' tpos : Pos} {ta tv : TE}
def rAdd : V → V → Hp → VK → Prop := fun x y H Q => ∃ i j, x = .int i ∧ y = .int j ∧ Q (.int (i + j)) H
def rSub : V → V → Hp → VK → Prop := fun x y H Q => ∃ i j, x = .int i ∧ y = .int j ∧ Q (.int (i - j)) H

end

/-! ### isinstance -/
section
variable {X : Cx} {pins : List (Addr × Obj)} {σ : St} {H : Hp} {s : Shared} {A : Around} {E : Value → Shared → Prop} {Q : Value → Shared → Prop} {c : Value} {b : Bool}
/-- the type of a value, as the fragment's deciders take it; for an instance its class -/
inductive TyOf (K : PySem.W.Frag) (H : Hp) : V → Value → Prop where
  | non : TyOf K H .non (.type "NoneType")
  | bl (x : Bool) : TyOf K H (.bl x) (.type "bool")
  | int (i : Int) : TyOf K H (.int i) (.type "int")
  | str (x : Str) : TyOf K H (.str x) (.type "str")
  | flt (x : UInt64) : TyOf K H (.flt x) (.type "float")
  | lst {a : Addr} {xs : List V} (e : H a = some (.lst xs)) : TyOf K H (.ref a) (.type "list")
  | frz {a : Addr} {o : Obj} {xs : List V} (e : H a = some (.frz o (.lst xs))) : TyOf K H (.ref a) (.type "list")
  | tup {a : Addr} {xs : List V} (e : H a = some (.tup xs)) : TyOf K H (.ref a) (.type "tuple")
  | dK {a : Addr} {kvs : List (Key × V)} (e : H a = some (.dK kvs)) : TyOf K H (.ref a) (.type "dict")
  | dT {a : Addr} {kvs : List (List Key × V)} (e : H a = some (.dT kvs)) : TyOf K H (.ref a) (.type "dict")
  | ins {a C dx : Addr} {fs : List (Str × V)} (e : H a = some (.ins C dx fs)) (cl : Cls K C) (ha : PySem.W.findIn K (.ref C) "__class__" = some (some (.builtin "object.__class__")))
      (hn : PySem.W.specialIn K (.builtin "object.__class__") "__get__" = some (some (.builtin "getset_descriptor.__get__"))) (htk : PySem.W.takesIn K (.builtin "object.__class__") = some true)
      (hm : PySem.W.mroIn K C (.type "object") = some true) : TyOf K H (.ref a) (.ref C)
/-- isinstance(x, c) for one class c, a built-in or an own one: kitOne's answer -/
theorem isinst_ok {x : V} {u t : Value} (I : Inv X pins σ H s) (rx : RelV x u) (ty : TyOf X.K H x t) (e : PySem.W.kitOne X.K t c = some b) (h : ∀ tk, Q (.bool b) { s with toks := tk }) :
    wpAny (model X.prog X.w) A (call (.builtin "isinstance") [u, c]) Q E s := by
  cases ty with
  | non => cases (show u = Value.none from rx); exact PySem.W.kia_one PySem.W.kitx_none I.kIn True.intro e (fun z => nomatch z) h
  | bl y => cases (show u = Value.bool y from rx); exact PySem.W.kia_one PySem.W.kitx_bool I.kIn True.intro e (fun z => nomatch z) h
  | int i => obtain ⟨t, q⟩ := (show ∃ t, u = Value.int i t from rx); cases q; exact PySem.W.kia_one PySem.W.kitx_int I.kIn True.intro e (fun z => nomatch z) h
  | str y => obtain ⟨t, q⟩ := (show ∃ t, u = Value.str y t from rx); cases q; exact PySem.W.kia_one PySem.W.kitx_str I.kIn True.intro e (fun z => nomatch z) h
  | flt y => obtain ⟨t, q⟩ := (show ∃ t, u = Value.float y t from rx); cases q; exact PySem.W.kia_one PySem.W.kitx_float I.kIn True.intro e (fun z => nomatch z) h
  | @lst a xs ea =>
    cases (show u = Value.ref a from rx)
    obtain ⟨_, _, n, _, h1⟩ := (show ObjOk X.prog X.w H s.heap a (.lst xs) from I.hok a _ ea)
    exact PySem.W.kia_one PySem.W.kitx_list I.kIn ⟨_, h1, rfl⟩ e (fun z => nomatch z) h
  | @frz a ob xs ea =>
    cases (show u = Value.ref a from rx)
    obtain ⟨_, _, _, n, _, h1⟩ := (show ObjOk X.prog X.w H s.heap a (.frz ob (.lst xs)) from I.hok a _ ea)
    exact PySem.W.kia_one PySem.W.kitx_list I.kIn ⟨_, h1, rfl⟩ e (fun z => nomatch z) h
  | @tup a xs ea =>
    cases (show u = Value.ref a from rx)
    obtain ⟨_, _, _, p⟩ := (show ObjOk X.prog X.w H s.heap a (.tup xs) from I.hok a _ ea)
    obtain ⟨o, h1, h2, _⟩ := p
    exact PySem.W.kia_one PySem.W.kitx_tuple I.kIn ⟨o, h1, h2⟩ e (fun z => nomatch z) h
  | @dK a kvs ea =>
    cases (show u = Value.ref a from rx)
    obtain ⟨_, _, vs, _, p⟩ := (show ObjOk X.prog X.w H s.heap a (.dK kvs) from I.hok a _ ea)
    obtain ⟨o, es, ep, h1, h2, _⟩ := p
    exact PySem.W.kia_one PySem.W.kitx_dict I.kIn ⟨o, h1, h2.1⟩ e (fun z => nomatch z) h
  | @dT a kvs ea =>
    cases (show u = Value.ref a from rx)
    obtain ⟨_, _, xs, _, o, es, ep, h1, h2, _⟩ := (show ObjOk X.prog X.w H s.heap a (.dT kvs) from I.hok a _ ea)
    exact PySem.W.kia_one PySem.W.kitx_dict I.kIn ⟨o, h1, h2.1⟩ e (fun z => nomatch z) h
  | @ins a C dx fs ea cl ha hn htk hm =>
    cases (show u = Value.ref a from rx)
    obtain ⟨mA, O, _⟩ := ins_get I.hok ea
    obtain ⟨od, J, _⟩ := O.look
    exact PySem.W.kia_one (PySem.W.kitx_own (cl.get _) cl.hd ha hn htk hm) I.kIn J e (fun z => nomatch z) h
end
end L2

namespace L2
open PySem PySem.Spec PyProof.Rows

/-! ### room -/
structure Room (k : Nat) (A : Around) : Prop where
  hd : A.handled = none
  dp : A.depth + 3 * k + 5 < recursionLimit
  un : A.units + 16 * k + 200 < cLine
theorem Room.mono {j k : Nat} {A : Around} (r : Room k A) (h : j ≤ k) : Room j A := ⟨r.hd, by have := r.dp; omega, by have := r.un; omega⟩
theorem Room.deeper {k : Nat} {A : Around} (r : Room (k + 1) A) (env : Env) : Room k (A.deeper env) :=
  ⟨r.hd, by have := r.dp; show A.depth + 1 + 3 * k + 5 < _; omega, by have := r.un; show A.units + 3 + 16 * k + 200 < _; omega⟩
theorem Room.depth {k : Nat} {A : Around} (r : Room k A) : A.depth < recursionLimit := by have := r.dp; omega
theorem Room.units {k : Nat} {A : Around} (r : Room k A) : A.units + 64 < cLine := by have := r.un; omega

/-! ### argument lists and displays -/
def tNil : TA := fun _ H Q => Q [] H
def tCons (ta : TE) (tr : TA) : TA := fun σ H Q => ta σ H fun x H1 => tr σ H1 fun xs H2 => Q (x :: xs) H2
section
variable {X : Cx} {e : Expr} {es : List Expr} {te : TE} {t : TA} {pos : Pos}
theorem pa_nil : PA X [] tNil := fun _ _ _ _ H Q I h => Calls.spliced_nil ⟨[], H, I, .nil, h⟩
theorem pa_cons (ha : PE X e te) (hr : PA X es t) (hs : starEach (e :: es) X.env = (false, eval e X.env) :: starEach es X.env := by rfl) : PA X (e :: es) (tCons te t) := by
  intro pos pins s σ H Q I h
  rw [hs]
  show wpAny _ _ (spliced ((false, eval e X.env) :: backTo pos (starEach es X.env))) _ _ s
  refine Calls.spliced_cons (thn (ha pins s σ H _ I h) fun u s1 ⟨x, H1, I1, r1, q1⟩ => ?_)
  exact thn (hr pos pins s1 σ H1 _ I1 q1) fun us s2 ⟨xs, H2, I2, r2, q2⟩ => ⟨x :: xs, H2, I2, .cons r1 r2, q2⟩

/-- a tuple, a list of written items -/
def tTup (t : TA) : TE := fun σ H Q => t σ H fun xs H1 => xs.length ≤ sizeLine ∧ ∀ p, H1 p = none → Q (.ref p) (upd H1 p (.tup xs))
def tLst (t : TA) : TE := fun σ H Q => t σ H fun xs H1 => xs.length ≤ sizeLine ∧ ∀ p, H1 p = none → Q (.ref p) (upd H1 p (.lst xs))
theorem pe_tup {x1} (h : PA X es t) : PE X (.Tuple es x1 pos) (tTup t) := by
  intro pins s σ H Q I hq
  refine wpAny_Tuple_spliced (thn (h pos pins s σ H _ I hq) fun us s1 ⟨xs, H1, I1, r, z, q⟩ => ⟨by rw [← r.length]; exact z, ?_⟩)
  have hf : H1 s1.heap.objs.size = none := I1.hok.fresh (Nat.le_refl _)
  refine ⟨.ref s1.heap.objs.size, upd H1 s1.heap.objs.size (.tup xs), I1.laid (t' := s1.toks) (fun b u e => Heap.get?_push_of_some _ e) (Nat.le_refl _) ?_, rfl, q _ hf⟩
  exact ⟨z, us, r, ⟨_, Heap.get?_push_size _ rfl, rfl, _, rfl⟩⟩
theorem pe_lst (h : PA X es t) : PE X (.List es pos) (tLst t) := by
  intro pins s σ H Q I hq
  refine wpAny_List_spliced (thn (h pos pins s σ H _ I hq) fun us s1 ⟨xs, H1, I1, r, z, q⟩ => ⟨by rw [← r.length]; exact z, ?_⟩)
  have hf : H1 s1.heap.objs.size = none := I1.hok.fresh (Nat.le_refl _)
  refine ⟨.ref s1.heap.objs.size, upd H1 s1.heap.objs.size (.lst xs), I1.laid (t' := s1.toks) (fun b u e => Heap.get?_push_of_some _ e) (Nat.le_refl _) ?_, rfl, q _ hf⟩
  exact ⟨z, us, 0, r, Heap.get?_push_size _ rfl⟩
end

/-! ### what a def promises -/
/-- a def's promise: the bound arguments in the parameters' order, the heap, the wanted end, the wanted exception -/
abbrev Sp := List V → Hp → VK → XK → Prop
/-- how an exception lies behind a call (file 08 gives it): the callers' frames, abstract heap and state ahead of the call, the wish, the exception, the state -/
abbrev CXT := List Env → Hp → Shared → XK → Value → Shared → Prop

/-- the state at a call -/
structure Env0 (P : Program) (w : World) (K : PySem.W.Frag) (mg : Str → Option Value) (base : Heap) (A : Around) (outer : List Env) (s : Shared) (H : Hp) : Prop where
  frames : A.frames = some outer
  mod : Mod K mg base
  bs : ∀ b o, base.get? b = some o → s.heap.get? b = some o ∧ H b = none
  bsz : base.objs.size ≤ s.heap.objs.size
  funs : s.heap.FunFrames base outer
  frf : ∀ b ∈ frs outer, H b = none
  hok : HOk P w H s.heap
  bare : AllBare s.gens
/-- a call's end -/
def CE (outer : List Env) (P : Program) (w : World) (H : Hp) (s : Shared) (Q : VK) (u : Value) (s' : Shared) : Prop :=
  ∃ v H', s'.os = s.os ∧ AllBare s'.gens ∧ Un (frs outer) [] H H' s.heap s'.heap ∧ HOk P w H' s'.heap ∧ RelV v u ∧ Q v H'
def CR (CX : CXT) (outer : List Env) (P : Program) (w : World) (H : Hp) (s : Shared) (Q : VK) (E : XK) (r : Result) (s' : Shared) : Prop :=
  match r with
  | .ok (.ret u) => CE outer P w H s Q u s'
  | .ok _ => False
  | .error e => CX outer H s E e s'
structure FnOk (P : Program) (w : World) (K : PySem.W.Frag) (mg : Str → Option Value) (base : Heap) (CX : CXT) (k : Nat) (f : Addr) (fd : FuncData) (ps : List Str) (sp : Sp) : Prop where
  len : ∀ vs H Q E, sp vs H Q E → vs.length = ps.length
  run : ∀ (A : Around) (outer : List Env) (s : Shared) (H : Hp) (args : Args) (us : List Value) (vs : List V) (Q : VK) (E : XK), Room k A → Env0 P w K mg base A outer s H → BindsTo s fd args (ps.zip us) → Vals vs us → sp vs H Q E →
    codeAny (model P w) A (.call (.ref f) args) (CR CX outer P w H s Q E) s


section
variable {X : Cx} {pins : List (Addr × Obj)} {σ : St} {H : Hp} {s s' : Shared}
/-- from a body: what a callee wants -/
theorem Inv.env0 (I : Inv X pins σ H s) : Env0 X.prog X.w X.K X.mg X.base X.A X.stack s H :=
  ⟨I.ok.frames, I.ok.mod, I.bs, Nat.le_trans I.ok.bsz I.sz, I.stack, I.stkFree, I.hok, I.bare⟩
/-- behind a call -/
theorem Inv.after {Q : VK} {u : Value} (I : Inv X pins σ H s) (h : CE X.stack X.prog X.w H s Q u s') : EP X pins σ Q u s' := by
  obtain ⟨v, H', os, bare, un, hok, r, q⟩ := h
  obtain ⟨hh, g, d, t, os'⟩ := s'
  obtain rfl : os' = s.os := os
  exact ⟨v, H', I.call (h' := hh) (g' := g) (d' := d) (t' := t) (ch := []) un hok bare (fun b z => absurd z (by simp)), r, q⟩
end

/-! ### calls -/
/-- f(..): the written arguments, then the defaults dvs; E: what is wanted of an exception -/
def tCall (sp : Sp) (dvs : List V) (E : XK) (t : TA) : TE := fun σ H Q => t σ H fun vs H1 => sp (vs ++ dvs) H1 Q E
/-- o.m(..) of an instance of the class at C -/
def tMeth (C : Addr) (m : Str) (sp : Sp) (dvs : List V) (E : XK) (ta : TE) (t : TA) : TE := fun σ H Q => ta σ H fun x H1 => ∃ a dx fs, x = .ref a ∧ H1 a = some (.ins C dx fs) ∧ fs.lookup m = none ∧
  t σ H1 fun vs H2 => sp (x :: (vs ++ dvs)) H2 Q E
/-- C(..): a new instance and its dict, then __init__ -/
def tMake (C : Addr) (sp : Sp) (dvs : List V) (E : XK) (t : TA) : TE := fun σ H Q => t σ H fun vs H1 => ∀ x dx, H1 x = none → H1 dx = none → dx ≠ x →
  sp (.ref x :: (vs ++ dvs)) (upd (upd H1 dx (.own x)) x (.ins C dx [])) (fun v H2 => v = .non ∧ Q (.ref x) H2) E

/-- how the parameters are bound: us the positional arguments, kw the keywords' values by name, ds the defaults that fill up -/
def Binds (K : PySem.W.Frag) (fd : FuncData) (ps : List Str) (ds : List Value) : Prop :=
  ∀ (s : Shared) (us : List Value), K.In s.heap → (us ++ ds).length = ps.length → BindsTo s fd ⟨us, []⟩ (ps.zip (us ++ ds))
/-- every parameter is given -/
theorem Binds.all {K : PySem.W.Frag} {fd : FuncData} {ps : List Str} (h : ∀ us : List Value, us.length = ps.length → bindArgs fd ⟨us, []⟩ = pure (ps.zip us)) : Binds K fd ps [] := fun s us _ hl => by
  rw [List.append_nil] at hl ⊢
  exact .of_eq (h us hl)

/-- an exception of a callee reaches what this body wants of exceptions -/
def Passes (CX : CXT) (X : Cx) (E : XK) : Prop := ∀ (pins : List (Addr × Obj)) (σ : St) (H : Hp) (s : Shared) (e : Value) (s' : Shared), Inv X pins σ H s → CX X.stack H s E e s' → X.xe e s'

section
variable {X : Cx} {CX : CXT} {k : Nat} {f C : Addr} {fd : FuncData} {ps : List Str} {sp : Sp} {dvs : List V} {ds : List Value} {E : XK} {x m : Str} {p pos apos : Pos} {e o : Expr} {es : List Expr} {ta : TE} {t : TA}

/-- the callee runs -/
theorem run_fn {pins : List (Addr × Obj)} {σ : St} {H : Hp} {s : Shared} {Q : VK} {us : List Value} {vs : List V} (F : FnOk X.prog X.w X.K X.mg X.base CX k f fd ps sp) (hr : Room k X.A) (hb : Binds X.K fd ps ds) (hd : Vals dvs ds) (hx : Passes CX X E)
    (I : Inv X pins σ H s) (r : Vals vs us) (h : sp (vs ++ dvs) H Q E) : wpAny (model X.prog X.w) X.A (call (.ref f) us) (EP X pins σ Q) X.xe s := by
  have r2 : Vals (vs ++ dvs) (us ++ ds) := r.append hd
  have hl : (us ++ ds).length = ps.length := by rw [← r2.length]; exact F.len _ _ _ _ h
  refine wpAny_call (codeAny_mono (F.run X.A X.stack s H ⟨us, []⟩ (us ++ ds) (vs ++ dvs) Q E hr I.env0 (hb s us I.kIn hl) r2 h) fun r s' hq => ?_)
  cases r with
  | error e => exact hx pins σ H s e s' I hq
  | ok fl =>
    cases fl with
    | ret u => exact I.after hq
    | next => exact False.elim hq
    | brk => exact False.elim hq
    | cont => exact False.elim hq

theorem pe_call (F : FnOk X.prog X.w X.K X.mg X.base CX k f fd ps sp) (hr : Room k X.A) (hg : Gl X x) (hm : X.mg x = some (.ref f)) (hk : PySem.W.keepIn X.K (.ref f) = true) (hb : Binds X.K fd ps ds) (hd : Vals dvs ds) (hx : Passes CX X E)
    (ha : PA X (e :: es) t) (hdb : (x == ("__debug__" : Str)) = false := by decide) (he : starEach (e :: es) X.env = (false, eval e X.env) :: starEach es X.env := by rfl) (hpl : (backTo pos (starEach es X.env)).any (·.1) = false := by rfl) :
    PE X (.Call (.Name x p) (e :: es) [] pos) (tCall sp dvs E t) := by
  intro pins s σ H Q I h
  refine wpAny_Call_Name_kw (ld_glob I hg hm ?_ hdb)
  refine PySem.W.callWith_K (h₀ := X.base) I.ok.mod.kin hk (thn (ha pos pins s σ H _ I h) fun us s1 ⟨vs, H1, I1, r, q⟩ => ⟨I1.kIn, ?_⟩) he hpl
  exact run_fn F hr hb hd hx I1 r q


/-- what a class must have to be made -/
structure Mk (K : PySem.W.Frag) (C f : Addr) : Prop where
  makes : PySem.W.makesIn K C = true
  init : PySem.W.findIn K (.ref C) "__init__" = some (some (.ref f))
  fn : PySem.W.isFn K (.ref f) = true
  kp : PySem.W.keepIn K (.ref C) = true

end

/-! ### keywords -/
/-- the values of the keywords, from the left -/
def PK (X : Cx) (kws : List Keyword) (t : TA) : Prop :=
  ∀ (pos : Pos) (pins : List (Addr × Obj)) (s : Shared) (σ : St) (H : Hp) (Q : List V → Hp → Prop), Inv X pins σ H s → t σ H Q → wpAny (model X.prog X.w) X.A (evalAll ((backToKw pos (keywordEach kws X.env)).map (·.2))) (AP X pins σ Q) X.xe s
section
variable {X : Cx} {CX : CXT} {k : Nat} {f C : Addr} {fd : FuncData} {ps ks : List Str} {sp : Sp} {E : XK} {x m : Str} {p pos apos kpos : Pos} {e o : Expr} {es : List Expr} {kws : List Keyword} {te ta : TE} {t tk : TA} {nm : Option Str}

/-- how a call with keywords binds: g puts the positional values us and the keywords' values ws (names ks) in the parameters' order, defaults among them -/
structure KBinds (K : PySem.W.Frag) (fd : FuncData) (ps ks : List Str) (g : List Value → List Value → List Value) (gV : List V → List V → List V) : Prop where
  to : ∀ (s : Shared) (us ws : List Value), K.In s.heap → (g us ws).length = ps.length → BindsTo s fd ⟨us, ks.zip ws⟩ (ps.zip (g us ws))
  rel : ∀ {vs : List V} {us : List Value} {zs : List V} {ws : List Value}, Vals vs us → Vals zs ws → Vals (gV vs zs) (g us ws)
def tCallK (sp : Sp) (gV : List V → List V → List V) (E : XK) (t tk : TA) : TE := fun σ H Q => t σ H fun vs H1 => tk σ H1 fun zs H2 => sp (gV vs zs) H2 Q E
variable {g : List Value → List Value → List Value} {gV : List V → List V → List V}
end

/-! ### a def's body keeps its promise -/
/-- names: the parameters first -/
structure FnScope (N P : List Str) (sc : Scope) : Prop where
  kind : sc.kind = .function
  co : sc.isCoroutine = false
  gen : sc.isGenerator = false
  nd : N.Nodup
  pre : N.take P.length = P
  par : ∀ x ∈ P, sc.names.lookup x = some .local ∨ sc.names.lookup x = some .cell
  nofree : ∀ y ∈ sc.names, y.2 ≠ .free

theorem bindL_out {kindOf : Str → Option NameKind} {x : Str} : ∀ {binds : List (Str × Value)} {m : Str → Option Value}, (∀ v, (x, v) ∉ binds) → bindL kindOf binds m x = m x
  | [], _, _ => rfl
  | (n, v) :: r, m, h => by
    unfold bindL
    rw [bindL_out fun w hw => h w (List.mem_cons_of_mem _ hw)]
    split
    · have : x ≠ n := by rintro rfl; exact h v List.mem_cons_self
      simp [this]
    · rfl
theorem bindC_out {kindOf : Str → Option NameKind} {x : Str} : ∀ {binds : List (Str × Value)} {m : Str → Option Value}, (∀ v, (x, v) ∉ binds) → bindC kindOf binds m x = m x
  | [], _, _ => rfl
  | (n, v) :: r, m, h => by
    unfold bindC
    rw [bindC_out fun w hw => h w (List.mem_cons_of_mem _ hw)]
    split
    · rfl
    · have : x ≠ n := by rintro rfl; exact h v List.mem_cons_self
      simp [this]
theorem bindL_get {kindOf : Str → Option NameKind} {x : Str} {v : Value} : ∀ {P : List Str} {vs : List Value} {i : Nat} {m : Str → Option Value}, P.Nodup → P[i]? = some x → vs[i]? = some v → kindOf x = some .local →
    bindL kindOf (P.zip vs) m x = some v
  | [], _, _, _, _, h, _, _ => by simp at h
  | _ :: _, [], _, _, _, _, h, _ => by simp at h
  | p :: P, w :: vs, 0, m, nd, h1, h2, hk => by
    simp at h1 h2; subst h1; subst h2
    show bindL kindOf ((p, w) :: P.zip vs) m p = _
    unfold bindL
    rw [bindL_out fun v hv => (List.nodup_cons.mp nd).1 (List.of_mem_zip hv).1, if_pos hk]
    simp
  | p :: P, w :: vs, i + 1, m, nd, h1, h2, hk => by
    show bindL kindOf ((p, w) :: P.zip vs) m x = _
    unfold bindL
    exact bindL_get (i := i) (List.nodup_cons.mp nd).2 (by simpa using h1) (by simpa using h2) hk
theorem bindC_get {kindOf : Str → Option NameKind} {x : Str} {v : Value} : ∀ {P : List Str} {vs : List Value} {i : Nat} {m : Str → Option Value}, P.Nodup → P[i]? = some x → vs[i]? = some v → kindOf x ≠ some .local →
    bindC kindOf (P.zip vs) m x = some v
  | [], _, _, _, _, h, _, _ => by simp at h
  | _ :: _, [], _, _, _, _, h, _ => by simp at h
  | p :: P, w :: vs, 0, m, nd, h1, h2, hk => by
    simp at h1 h2; subst h1; subst h2
    show bindC kindOf ((p, w) :: P.zip vs) m p = _
    unfold bindC
    rw [bindC_out fun v hv => (List.nodup_cons.mp nd).1 (List.of_mem_zip hv).1, if_neg hk]
    simp
  | p :: P, w :: vs, i + 1, m, nd, h1, h2, hk => by
    show bindC kindOf ((p, w) :: P.zip vs) m x = _
    unfold bindC
    exact bindC_get (i := i) (List.nodup_cons.mp nd).2 (by simpa using h1) (by simpa using h2) hk

/-- the names' values at the entry -/
def start (N : List Str) (vs : List V) : St := vs.map some ++ List.replicate (N.length - vs.length) none

/-- the context of a def's body, at its entry; an exception leaves the frame, then lies as CX says -/
def cxOf (CX : CXT) (P : Program) (w : World) (K : PySem.W.Frag) (mg : Str → Option Value) (base : Heap) (N : List Str) (qual : Str) (scope : Scope) (f : Addr) (cd : Value) (A : Around) (outer : List Env) (s : Shared) (H : Hp) (E : XK) : Cx where
  prog := P
  w := w
  K := K
  mg := mg
  base := base
  A := A.deeper (envOfC qual scope s.heap.objs.size f cd)
  N := N
  s₀ := s
  H₀ := H
  env := envOfC qual scope s.heap.objs.size f cd
  outer := outer
  stack := envOfC qual scope s.heap.objs.size f cd :: outer
  ex := []
  calm := true
  fn := fun _ => true
  pn := []
  xe := fun e s' => wpAny (model P w) (A.deeper (envOfC qual scope s.heap.objs.size f cd)) (leaving (envOfC qual scope s.heap.objs.size f cd) e) (fun _ s'' => CX outer H s E e s'') (fun e' s'' => CX outer H s E e' s'') s'

theorem cell_has {sc : Scope} {n : Nat} {x : Str} (h : sc.names.lookup x = some .cell) : ∃ c, (cellsFrom n sc.names []).lookup x = some c := by
  have q := PySem.W.cellsFrom_some sc.names n [] (.inl h)
  exact Option.isSome_iff_exists.mp q

theorem inv_start {CX : CXT} {P : Program} {w : World} {K : PySem.W.Frag} {mg : Str → Option Value} {base : Heap} {N ps : List Str} {qual : Str} {scope : Scope} {f : Addr} {cd : Value} {A : Around} {outer : List Env} {s s1 : Shared} {H : Hp} {E : XK} {us : List Value} {vs : List V}
    (S : FnScope N ps scope) (hd : A.handled = none) (e0 : Env0 P w K mg base A outer s H) (hl : vs.length = ps.length) (r : Vals vs us)
    (x : InCallC s s.heap.objs.size (bindL (envOfC qual scope s.heap.objs.size f cd).kindOf (ps.zip us) fun _ => none) (cellsFrom (s.heap.objs.size + 1) scope.names []) (bindC (envOfC qual scope s.heap.objs.size f cd).kindOf (ps.zip us) fun _ => none) s1) :
    Inv (cxOf CX P w K mg base N qual scope f cd A outer s H E) [] (start N vs) H s1 := by
  have hpl : ps.length ≤ N.length := by have := congrArg List.length S.pre; rw [List.length_take] at this; omega
  obtain ⟨h1, tk, rfl, hk⟩ := x.done
  have noA : ∀ b : Addr, b ∉ (cxOf CX P w K mg base N qual scope f cd A outer s H E).ex := fun b z => absurd (show b ∈ ([] : List Addr) from z) (by simp)
  refine ⟨⟨e0.mod, S.kind, rfl, rfl, Nat.le_refl _, fun y z c h1 h2 => ?_, fun y hy => ?_, fun y c _ h => ?_, fun _ => hd, Around.frames_deeper e0.frames, .inr ⟨rfl, rfl⟩, fun b z => absurd z (noA b), e0.bs, e0.bsz, fun b _ _ => noA b, fun b z => absurd z (noA b), e0.funs, e0.frf⟩,
    rfl, e0.bare, Un.kept hk, ⟨_, x.toInCall.ns, fun i y v h1 h2 h3 => ?_⟩, fun y c h => ⟨_, x.cell y c h⟩, e0.hok.fresh (Nat.le_refl _), fun y c h => ?_, fun p hp => absurd (show p ∈ ([] : List (Addr × Obj)) from hp) (by simp), e0.hok.kept hk, ?_⟩
  · exact name_of_addr x.apart (PySem.mem_of_lookup h1) (PySem.mem_of_lookup h2)
  · have hy : scope.names.lookup y = some .cell ∨ scope.names.lookup y = some .free := hy
    rcases hy with hy | hy
    · exact cell_has hy
    · exact absurd rfl (S.nofree _ (PySem.mem_of_lookup hy))
  · exact Nat.le_of_lt (x.above y c (PySem.mem_of_lookup h))
  · have hi : i < vs.length := by
      unfold start at h2
      by_cases hi : i < vs.length
      · exact hi
      · rw [List.getElem?_append_right (by simpa using hi)] at h2
        rw [List.getElem?_replicate] at h2
        split at h2 <;> cases h2
    have ha : vs[i]? = some v := by
      unfold start at h2
      rw [List.getElem?_append_left (by simpa using hi), List.getElem?_map] at h2
      cases e : vs[i]? with
      | none => rw [e] at h2; cases h2
      | some a => rw [e] at h2; cases h2; rfl
    obtain ⟨u, hu, rv⟩ := r.get ha
    have hp : ps[i]? = some y := by
      rw [← S.pre, List.getElem?_take_of_lt (by omega)]; exact h1
    have ndP : ps.Nodup := by rw [← S.pre]; exact S.nd.sublist (List.take_sublist _ _)
    refine ⟨u, rv, ?_⟩
    rcases S.par y (List.mem_of_getElem? hp) with k | k
    · exact .inl ⟨k, bindL_get ndP hp hu k⟩
    · obtain ⟨c, e⟩ := cell_has (n := s.heap.objs.size + 1) k
      refine .inr ⟨.inl k, c, e, ?_⟩
      have q := x.cell y c e
      rw [bindC_get ndP hp hu (by show scope.names.lookup y ≠ _; rw [k]; decide)] at q
      exact q
  · exact e0.hok.fresh (Nat.le_of_lt (x.above y c (PySem.mem_of_lookup h)))
  · unfold start
    show _ = N.length
    rw [List.length_append, List.length_map, List.length_replicate]
    omega

/-- THE RULE: a def (or a method) of the text, by its body. The body's reading t is chosen for each entry; it is run at the parameters' values -/
theorem fn_of {CX : CXT} {P : Program} {w : World} {K : PySem.W.Frag} {mg : Str → Option Value} {base : Heap} {k : Nat} {f : Addr} {name qual : Str} {params : Arguments} {body : List Stmt} {scope : Scope} {dV kV doc pm cdv ct oc : Value} {an od : Option Addr}
    {osl : Array (Option Value)} {N ps : List Str} {sp : Sp} (lk : K.lookup f = some ⟨oc, od, .func (PySem.W.fnOf name qual params body scope dV kV doc pm an cdv ct), osl⟩) (hcd : PySem.W.codeIn K cdv qual = true) (S : FnScope N ps scope)
    (len : ∀ vs H Q E, sp vs H Q E → vs.length = ps.length)
    (hbody : ∀ (A : Around) (outer : List Env) (s : Shared) (H : Hp) (vs : List V) (Q : VK) (E : XK), Room k (A.deeper (envOfC qual scope s.heap.objs.size f cdv)) → sp vs H Q E →
      ∃ t, PSs (cxOf CX P w K mg base N qual scope f cdv A outer s H E) body t ∧ t { nx := fun _ H' => Q .non H', rt := Q } (start N vs) H) :
    FnOk P w K mg base CX (k + 1) f (PySem.W.fnOf name qual params body scope dV kV doc pm an cdv ct) ps sp := by
  refine ⟨len, fun A outer s H args us vs Q E hr e0 hb r hsp => ?_⟩
  have hl := len _ _ _ _ hsp
  have KX : K.In s.heap := e0.mod.kin.keeps fun b o e => (e0.bs b o e).1
  have lim : s.heap.NoLimit := e0.mod.nolimit.keeps fun b o e => (e0.bs b o e).1
  have hkind : ∀ y ∈ ps.zip us, scope.names.lookup y.1 = some .local ∨ (scope.names.lookup y.1 = some .cell ∧ ((cellsFrom (s.heap.objs.size + 1) scope.names []).lookup y.1).isSome = true) := fun ⟨n, v⟩ hy => by
    rcases S.par n (List.of_mem_zip hy).1 with q | q
    · exact .inl q
    · exact .inr ⟨q, PySem.W.cellsFrom_some _ _ _ (.inl q)⟩
  refine codeAny_call_function hr.depth (KX _ _ lk) rfl S.co S.gen rfl (PySem.W.codeRec_of KX hcd) (hb _ _ _ _ ?_)
  refine wpAny_newFunctionEnv_cells S.kind hkind fun env he s1 x => ?_
  subst he
  refine ⟨lim.keeps x.toInCall.keep, codeAny_func ?_⟩
  obtain ⟨t, ht, hq⟩ := hbody A outer s H vs Q E (hr.deeper _) hsp
  have I : Inv (cxOf CX P w K mg base N qual scope f cdv A outer s H E) [] (start N vs) H s1 := inv_start S hr.hd e0 hl r x
  refine wpAny_mono (ht [] s1 (start N vs) H _ I hq) (fun fl s' hs => ?_) fun e s' hs => hs
  have fin : ∀ {σ' : St} {H' : Hp} {v : V} {u : Value}, Inv (cxOf CX P w K mg base N qual scope f cdv A outer s H E) [] σ' H' s' → RelV v u → Q v H' → CE outer P w H s Q u s' :=
    fun {σ' H' v u} J rv q => ⟨v, H', J.os, J.bare, J.base, J.hok, rv, q⟩
  cases fl with
  | ret u =>
    obtain ⟨v, σ', H', J, rv, q⟩ := hs
    exact fin J rv q
  | next =>
    obtain ⟨σ', H', J, q⟩ := hs
    exact fin (v := V.non) (u := Value.none) J rfl q
  | brk =>
    obtain ⟨_, _, _, q⟩ := hs
    exact False.elim q
  | cont =>
    obtain ⟨_, _, _, q⟩ := hs
    exact False.elim q
end L2

namespace L2
open PySem PySem.Spec PyProof.Rows
section
variable {X : Cx} {x : Str} {p pos : Pos} {e : Expr} {es : List Expr} {t : TA} {id T : String} {r : List V → Hp → VK → Prop}

def tCB (r : List V → Hp → VK → Prop) (t : TA) : TE := fun σ H Q => t σ H fun vs H1 => r vs H1 Q
/-- f(e, ..), f a built-in function -/
theorem pe_callB (hc : CallR X (.builtin id) r) (hg : Gl X x) (hm : X.mg x = none) (hv : bootBuiltins x = some (.builtin id)) (ha : PA X (e :: es) t) (hn : x ≠ "__name__" := by decide) (hdb : (x == ("__debug__" : Str)) = false := by decide)
    (he : starEach (e :: es) X.env = (false, eval e X.env) :: starEach es X.env := by rfl) (hpl : (backTo pos (starEach es X.env)).any (·.1) = false := by rfl) : PE X (.Call (.Name x p) (e :: es) [] pos) (tCB r t) := by
  intro pins s σ H Q I h
  refine wpAny_Call_Name_kw (ld_blt I hg hm hv ?_ hn hdb)
  exact PyProof.Rows.callWith_builtin1 (thn (ha pos pins s σ H _ I h) fun us s1 ⟨vs, H1, I1, r1, q1⟩ => hc pins s1 σ H1 vs us Q I1 r1 q1) he hpl
/-- T(e, ..), T a built-in type -/
theorem pe_callTy (hc : CallR X (.type T) r) (hg : Gl X x) (hm : X.mg x = none) (hv : bootBuiltins x = some (.type T)) (ha : PA X (e :: es) t) (hn : x ≠ "__name__" := by decide) (hdb : (x == ("__debug__" : Str)) = false := by decide)
    (he : starEach (e :: es) X.env = (false, eval e X.env) :: starEach es X.env := by rfl) (hpl : (backTo pos (starEach es X.env)).any (·.1) = false := by rfl) : PE X (.Call (.Name x p) (e :: es) [] pos) (tCB r t) := by
  intro pins s σ H Q I h
  refine wpAny_Call_Name_kw (ld_blt I hg hm hv ?_ hn hdb)
  exact PyProof.Rows.callWith_type1 (thn (ha pos pins s σ H _ I h) fun us s1 ⟨vs, H1, I1, r1, q1⟩ => hc pins s1 σ H1 vs us Q I1 r1 q1) he hpl
end
end L2

namespace L2
open PySem PySem.Spec PyProof.Rows

/-! ### lists of pairs as tables -/
section
variable {κ : Type} [DecidableEq κ]
def valV (kvs : List (κ × V)) (k : κ) : Option V := (kvs.find? fun kv => decide (kv.1 = k)).map (·.2)
/-- in its place, or at the end -/
def putK (kvs : List (κ × V)) (k : κ) (v : V) : List (κ × V) :=
  if (kvs.any fun kv => decide (kv.1 = k)) = true then kvs.map (fun kv => if kv.1 = k then (kv.1, v) else kv) else kvs ++ [(k, v)]
def dropK (kvs : List (κ × V)) (k : κ) : List (κ × V) := kvs.filter fun kv => decide (kv.1 ≠ k)

theorem valV_pos {p : κ × V} {r : List (κ × V)} {k : κ} (e : p.1 = k) : valV (p :: r) k = some p.2 := by simp [valV, List.find?_cons, e]
theorem valV_neg {p : κ × V} {r : List (κ × V)} {k : κ} (e : ¬ p.1 = k) : valV (p :: r) k = valV r k := by simp [valV, List.find?_cons, e]
theorem length_putK (kvs : List (κ × V)) (k : κ) (v : V) : (putK kvs k v).length ≤ kvs.length + 1 := by
  unfold putK
  split
  · rw [List.length_map]; omega
  · rw [List.length_append, List.length_cons, List.length_nil]; omega


end


/-! ### a tracked dict, its keys ints and texts or tuples of these -/
theorem kV_is {P : Program} {w : World} {k : Key} {u : Value} (r : RelV (kV k) u) : (mixKind P w).is k u = true := by
  cases k with
  | inl i => obtain ⟨t, e⟩ := (show ∃ t, u = Value.int i t from r); subst e; exact mixKind_int P w i t
  | inr x => obtain ⟨t, e⟩ := (show ∃ t, u = Value.str x t from r); subst e; exact mixKind_str P w x t
theorem kV_inj {a b : Key} (e : kV a = kV b) : a = b := by
  cases a with
  | inl i => cases b with
    | inl j => have e' : V.int i = V.int j := e; injection e' with e'; rw [e']
    | inr y => exact nomatch (show V.int i = V.str y from e)
  | inr x => cases b with
    | inl j => exact nomatch (show V.str x = V.int j from e)
    | inr y => have e' : V.str x = V.str y := e; injection e' with e'; rw [e']

/-- raw entries of a dict with tuple keys -/
abbrev KT (H : Hp) : List (List Key × V) → List (List Key × Addr × Value) → Prop := Paired fun p q => p.1 = q.1 ∧ H q.2.1 = some (.tup (p.1.map kV)) ∧ RelV p.2 q.2.2

section
variable {P : Program} {w : World} {H : Hp} {h : Heap} {a : Addr}
end

/-- what the dict at a holds at the key y -/
def DGet (H : Hp) (a : Addr) (y : V) (r : Option V) : Prop :=
  (∃ kvs k, Rd H a (.dK kvs) ∧ y = kV k ∧ r = valV kvs k) ∨ ∃ kvs k b, Rd H a (.dT kvs) ∧ y = .ref b ∧ H b = some (.tup (k.map kV)) ∧ r = valV kvs k
/-- the heap behind a[y] = v -/
def DPut (H : Hp) (a : Addr) (y v : V) (H' : Hp) : Prop :=
  (∃ kvs k, H a = some (.dK kvs) ∧ y = kV k ∧ kvs.length < sizeLine ∧ H' = upd H a (.dK (putK kvs k v))) ∨
  ∃ kvs k b, H a = some (.dT kvs) ∧ y = .ref b ∧ H b = some (.tup (k.map kV)) ∧ kvs.length < sizeLine ∧ H' = upd H a (.dT (putK kvs k v))


section
variable {X : Cx} {pins : List (Addr × Obj)} {σ : St} {H : Hp} {s : Shared} {a : Addr} {y v : V} {u r : Value} {o : Option V} {A : Around} {E : Value → Shared → Prop}


end

section
variable {X : Cx} {pins : List (Addr × Obj)} {σ : St} {H : Hp} {s : Shared} {a : Addr} {kvs : List (Key × V)} {k : Key} {u : Value} {A : Around} {E : Value → Shared → Prop}
end


/-! ### readings and rules -/
/-- the element of a subscription, not a slice -/
def NoSl (i : Expr) : Prop := ∀ ov iv, subscripted i false ov iv = operate [ov, iv] (getItem ov iv)


/-- d[y] -/
def tDGet (td ty : TE) : TE := fun σ H Q => td σ H fun x H1 => ty σ H1 fun y H2 => ∃ a v, x = .ref a ∧ DGet H2 a y (some v) ∧ Q v H2
/-- y in d, y not in d -/
def tDIn (ty td : TE) : TE := fun σ H Q => ty σ H fun y H1 => td σ H1 fun x H2 => ∃ a o, x = .ref a ∧ DGet H2 a y o ∧ Q (.bl o.isSome) H2
def tDNotIn (ty td : TE) : TE := fun σ H Q => ty σ H fun y H1 => td σ H1 fun x H2 => ∃ a o, x = .ref a ∧ DGet H2 a y o ∧ Q (.bl (!o.isSome)) H2
/-- d[y] = v -/
def sDPut (td ty tv : TE) : TS := fun D σ H => tv σ H fun v H1 => td σ H1 fun x H2 => ty σ H2 fun y H3 => ∃ a H4, x = .ref a ∧ DPut H3 a y v H4 ∧ D.nx σ H4
/-- d[y] op= v -/
def sDAug (td ty tv : TE) (rd : V → V → Hp → VK → Prop) : TS := fun D σ H => td σ H fun x H1 => ty σ H1 fun y H2 => ∃ a v, x = .ref a ∧ DGet H2 a y (some v) ∧
  tv σ H2 fun y2 H3 => rd v y2 H3 fun z H4 => ∃ H5, DPut H4 a y z H5 ∧ D.nx σ H5
/-- del d[y] -/
def sDDel (td ty : TE) : TS := fun D σ H => td σ H fun x H1 => ty σ H1 fun y H2 => ∃ a kvs k, x = .ref a ∧ H2 a = some (.dK kvs) ∧ y = kV k ∧ (valV kvs k).isSome = true ∧ D.nx σ (upd H2 a (.dK (dropK kvs k)))

section
variable {X : Cx} {o i e value : Expr} {pos pos' tpos : Pos} {td ty tv : TE}
end


/-! ### displays -/
/-- {}, to be a dict of the kind that is wanted -/
def tDNewK : TE := fun _ H Q => ∀ p, H p = none → Q (.ref p) (upd H p (.dK []))
def tDNewT : TE := fun _ H Q => ∀ p, H p = none → Q (.ref p) (upd H p (.dT []))
section
variable {X : Cx} {pos : Pos}
end

/-- the pairs of a display, from the left -/
def tPairs : List (TE × TE) → St → Hp → (List (V × V) → Hp → Prop) → Prop
  | [], _, H, Q => Q [] H
  | (tk, tv) :: r, σ, H, Q => tk σ H fun x H1 => tv σ H1 fun y H2 => tPairs r σ H2 fun ps H3 => Q ((x, y) :: ps) H3
abbrev VV : List (V × V) → List (Value × Value) → Prop := Paired fun p q => RelV p.1 q.1 ∧ RelV p.2 q.2
def PPs (X : Cx) (pos : Pos) (keys : List (Option Expr)) (values : List Expr) (trs : List (TE × TE)) : Prop :=
  ∀ (pins : List (Addr × Obj)) (s : Shared) (σ : St) (H : Hp) (Q : List (V × V) → Hp → Prop), Inv X pins σ H s → tPairs trs σ H Q →
    wpAny (model X.prog X.w) X.A (evalPairs (pairTrees keys values X.env pos)) (fun vs s' => ∃ ps H', Inv X pins σ H' s' ∧ VV ps vs ∧ Q ps H') X.xe s

def mergeK (kvs more : List (Key × V)) : List (Key × V) := more.foldl (fun acc kv => putK acc kv.1 kv.2) kvs
/-- {k: v, ..} with keys ints and texts; the new dict stands empty while the pairs are made -/
def tDisp (trs : List (TE × TE)) : TE := fun σ H Q => ∀ p, H p = none → tPairs trs σ (upd H p (.dK [])) fun ps H2 => H2 p = some (.dK []) ∧ ∃ kvs : List (Key × V), ps = kvs.map (fun kv => (kV kv.1, kv.2)) ∧ kvs.length ≤ 15 ∧ Q (.ref p) (upd H2 p (.dK (mergeK [] kvs)))


/-! ### methods -/
/-- a method call o.m(e) of a built-in, with one argument: what must be seen of the text -/
structure M1 (X : Cx) (o : Expr) (m : Str) (apos : Pos) (e : Expr) (cpos : Pos) : Prop where
  base : attributeBase o m X.env (eval o X.env) = eval o X.env
  few : ((backTo cpos (starEach [e] X.env)).all (fun x => !x.1) && (backToKw cpos (keywordEach [] X.env)).all (fun x => x.1.isSome)
    && decide (([e] : List Expr).length + ([] : List Keyword).length + (if ([] : List Keyword).isEmpty then 0 else 1) < 30)) = true
  line : (apos.endLine == cpos.line) = true
  trees : backTo cpos (starEach [e] X.env) = [(false, eval e X.env)]
structure M2 (X : Cx) (o : Expr) (m : Str) (apos : Pos) (e f : Expr) (cpos : Pos) : Prop where
  base : attributeBase o m X.env (eval o X.env) = eval o X.env
  few : ((backTo cpos (starEach [e, f] X.env)).all (fun x => !x.1) && (backToKw cpos (keywordEach [] X.env)).all (fun x => x.1.isSome)
    && decide (([e, f] : List Expr).length + ([] : List Keyword).length + (if ([] : List Keyword).isEmpty then 0 else 1) < 30)) = true
  line : (apos.endLine == cpos.line) = true
  trees : backTo cpos (starEach [e, f] X.env) = [(false, eval e X.env), (false, eval f X.env)]

/-- a is a dict, whatever its keys -/
def IsD (H : Hp) (a : Addr) : Prop := (∃ kvs, Rd H a (.dK kvs)) ∨ ∃ kvs, Rd H a (.dT kvs)

section
variable {X : Cx} {pins : List (Addr × Obj)} {σ : St} {H : Hp} {s : Shared} {a : Addr} {y d : V} {u r : Value} {o : Option V} {A : Around} {E : Value → Shared → Prop}
end

def tDGet1 (td ty : TE) : TE := fun σ H Q => td σ H fun x H1 => ∃ a, x = .ref a ∧ IsD H1 a ∧ ty σ H1 fun y H2 => ∃ o, DGet H2 a y o ∧ Q (o.getD .non) H2
def tDGet2 (td ty tx : TE) : TE := fun σ H Q => td σ H fun x H1 => ∃ a, x = .ref a ∧ IsD H1 a ∧ ty σ H1 fun y H2 => tx σ H2 fun z H3 => ∃ o, DGet H3 a y o ∧ Q (o.getD z) H3
/-- d.pop(k): there; d.pop(k, x): there or not -/
def tDPop1 (td ty : TE) : TE := fun σ H Q => td σ H fun x H1 => ∃ a, x = .ref a ∧ IsD H1 a ∧ ty σ H1 fun y H2 => ∃ kvs k v, H2 a = some (.dK kvs) ∧ y = kV k ∧ valV kvs k = some v ∧ Q v (upd H2 a (.dK (dropK kvs k)))
def tDPop2 (td ty tx : TE) : TE := fun σ H Q => td σ H fun x H1 => ∃ a, x = .ref a ∧ IsD H1 a ∧ ty σ H1 fun y H2 => tx σ H2 fun z H3 => ∃ kvs k, H3 a = some (.dK kvs) ∧ y = kV k ∧
  (∀ v, valV kvs k = some v → Q v (upd H3 a (.dK (dropK kvs k)))) ∧ (valV kvs k = none → Q z H3)
section
variable {X : Cx} {o e f : Expr} {apos cpos : Pos} {td ty tx : TE}
end

/-! ### dict(d): a copy -/
section
variable {X : Cx} {pins : List (Addr × Obj)} {σ : St} {H : Hp} {s : Shared} {a : Addr} {kvs : List (Key × V)} {A : Around} {E : Value → Shared → Prop}
end


section
variable {X : Cx} {pins : List (Addr × Obj)} {σ : St} {H : Hp} {s : Shared} {a : Addr} {y : V} {u : Value} {A : Around} {E : Value → Shared → Prop}
end
end L2

namespace HT
open PySem PyProof.Rows

/-- t < u of tuples of ints -/
def lexLt : List Int → List Int → Bool
  | [], [] => false
  | [], _ :: _ => true
  | _ :: _, [] => false
  | x :: xs, y :: ys => if x = y then lexLt xs ys else decide (x < y)
theorem lexLt_cons (x y : Int) (xs ys : List Int) : lexLt (x :: xs) (y :: ys) = if x = y then lexLt xs ys else decide (x < y) := rfl
theorem lexLt_nil_nil : lexLt [] [] = false := rfl
theorem lexLt_nil_cons (y : Int) (ys : List Int) : lexLt [] (y :: ys) = true := rfl
theorem lexLt_cons_nil (x : Int) (xs : List Int) : lexLt (x :: xs) [] = false := rfl

theorem eqAt_int (A : Around) (s : Shared) (a : Int) (t : Tok) (c : Int) (u : Tok) : ∃ e, SeqAt.EqAt A s (.int a t) (.int c u) e ∧ (e = true ↔ a = c) :=
  ⟨(a == c), SeqAt.EqAt.int_int a t c u, by simp⟩

section
open PySem.SeqAt
open PySem.AutoSeq1 (wpAny_loadPart')
open PySem.MeetsSeq PySem.MeetsSeq2 PySem.MeetsSeq3

end

section
variable {prog : Program} {w : World} {A : Around} {E : Value → Shared → Prop} {s : Shared}


/-- t + u, t not empty -/
theorem cat_tup {t b : Addr} {vs ws : List Value} {Q : Value → Shared → Prop} (ht : IsTup s.heap t vs.toArray) (hb : IsTup s.heap b ws.toArray) (hv : vs ≠ [])
    (h1 : ws = [] → Q (.ref t) s) (h2 : ws ≠ [] → Q (.ref s.heap.objs.size) { s with heap := s.heap.push { cls := .type "tuple", data := .seq (vs ++ ws).toArray } })
    (hsz : vs.length + ws.length ≤ sizeLine) : wpAny (model prog w) A (binaryOp .Add (.ref t) (.ref b)) Q E s := by
  obtain ⟨⟨cls, dd, data, sl⟩, ho, hc, n, hd⟩ := id ht
  obtain ⟨⟨cls2, dd2, data2, sl2⟩, ho2, hc2, n2, hd2⟩ := id hb
  simp only at hc hd hc2 hd2
  subst hc hd hc2 hd2
  have e : vs.toArray ++ ws.toArray = (vs ++ ws).toArray := by simp
  by_cases hw : ws = []
  · exact concat_meets ⟨_, ho, rfl⟩ ⟨_, ho2, rfl⟩ noFill_tuple_add seq_tuple_add PySem.F.slot_tuple_add PySem.F.entry_tuple_add (PySem.F.args_tuple_add_2 _ _)
      (tuple_addW1 t b vs.toArray ws.toArray n n2 dd dd2 sl sl2 (by simpa using hv) (by simp [hw])) ⟨ho, ho2, h1 hw⟩
  · refine concat_meets ⟨_, ho, rfl⟩ ⟨_, ho2, rfl⟩ noFill_tuple_add seq_tuple_add PySem.F.slot_tuple_add PySem.F.entry_tuple_add (PySem.F.args_tuple_add_2 _ _)
      (tuple_addW2 t b vs.toArray ws.toArray n n2 dd dd2 sl sl2 (by simpa using hv) (by simpa using hw) (by rw [List.size_toArray, List.size_toArray]; exact hsz)) ⟨ho, ho2, ?_⟩
    rw [e]
    exact h2 hw

/-! ### t[a:b], not the whole -/
/-- a slice's bound as a place among n (d where it is left out) -/
def sIx (n d : Nat) : Option Int → Nat
  | none => d
  | some v => if v < 0 then (v + (n : Int)).toNat else min v.toNat n
theorem sIx_le (n d : Nat) (hd : d ≤ n) (o : Option Int) : sIx n d o ≤ n := by
  cases o with
  | none => exact hd
  | some v =>
    show (if v < 0 then (v + (n : Int)).toNat else min v.toNat n) ≤ n
    by_cases hv : v < 0
    · rw [if_pos hv]; omega
    · rw [if_neg hv]; exact Nat.min_le_right _ _
theorem clip_eq (v : Int) (n d : Nat) : (if v < 0 then max (v + (n : Int)) 0 else min v (n : Int)) = ((sIx n d (some v) : Nat) : Int) := by
  show (if v < 0 then max (v + (n : Int)) 0 else min v (n : Int)) = (((if v < 0 then (v + (n : Int)).toNat else min v.toNat n) : Nat) : Int)
  by_cases hv : v < 0
  · simp only [if_pos hv]; omega
  · simp only [if_neg hv]; omega
theorem adjust_gen (lo hi : Option Int) (n : Nat) : Builtin.Slice.sliceAdjust lo hi 1 (n : Int) = (((sIx n 0 lo : Nat) : Int), ((sIx n n hi : Nat) : Int)) := by
  have h1 : ¬ ((1 : Int) < 0) := by omega
  unfold Builtin.Slice.sliceAdjust
  simp only [h1, if_false]
  refine Prod.ext ?_ ?_
  · cases lo with
    | none => rfl
    | some v => exact clip_eq v n 0
  · cases hi with
    | none => rfl
    | some v => exact clip_eq v n n
theorem places_gen (i j : Nat) : Builtin.Slice.slicePlaces (i : Int) (j : Int) 1 = j - i := by
  unfold Builtin.Slice.slicePlaces
  have h1 : (1 : Int) > 0 := by omega
  simp only [h1, if_true, Int.ediv_one]
  split <;> omega
theorem slicePart_ {v : Value} {o : Option Int} {Q : Option Int → Shared → Prop} (p : IsPart v o) (h : Q o s) : wpAny (model prog w) A (Builtin.Slice.slicePartIndex v) Q E s := by
  cases p with
  | none => exact slicePart_none h
  | int i t => exact slicePart_int h
theorem sliceApplied_gen {sl : Addr} {vl vu : Value} {lo hi : Option Int} {n : Nat} {Q : Int × Int × Nat → Shared → Prop} (hs : s.heap.IsSliceOf sl vl vu .none) (pl : IsPart vl lo) (pu : IsPart vu hi)
    (h : Q (((sIx n 0 lo : Nat) : Int), 1, sIx n n hi - sIx n 0 lo) s) : wpAny (model prog w) A (Builtin.Slice.sliceApplied (.ref sl) (pure (n : Int))) Q E s := by
  obtain ⟨os, hos, hcs, hds⟩ := id hs
  unfold Builtin.Slice.sliceApplied Builtin.Slice.sliceFields
  refine wpAny_bind (wpAny_bind (wpAny_field hos hds (x := vl) rfl (wpAny_bind (wpAny_field hos hds (x := vu) rfl (wpAny_bind (wpAny_field hos hds (x := .none) rfl (wpAny_pure ?_)))))))
  refine wpAny_bind (slicePart_none ?_)
  show wpAny _ _ (if ((1 : Int) == 0) = true then _ else _) _ _ s
  rw [if_neg (by decide)]
  refine wpAny_bind (slicePart_ pl (wpAny_bind (slicePart_ pu (wpAny_bind (wpAny_pure ?_)))))
  show wpAny _ _ (match Builtin.Slice.sliceAdjust lo hi 1 (n : Int) with | (lo, hi) => pure (lo, (1 : Int), Builtin.Slice.slicePlaces lo hi 1)) _ _ s
  rw [adjust_gen lo hi n]
  show wpAny _ _ (pure (((sIx n 0 lo : Nat) : Int), (1 : Int), Builtin.Slice.slicePlaces ((sIx n 0 lo : Nat) : Int) ((sIx n n hi : Nat) : Int) 1)) _ _ s
  rw [places_gen]
  exact wpAny_pure h
theorem pick_gen (xs : Array Value) (i k : Nat) : ((List.range k).filterMap fun (m : Nat) => xs[((i : Int) + (m : Int) * 1).toNat]?).toArray = ((xs.toList.drop i).take k).toArray := by
  have e : (fun (m : Nat) => xs[((i : Int) + (m : Int) * 1).toNat]?) = fun m => xs[i + m]? := by
    funext m
    have : ((i : Int) + (m : Int) * 1).toNat = i + m := by omega
    rw [this]
  rw [e]
  have := pick_run xs i k
  rw [List.filterMap_map] at this
  have e2 : ((fun x => xs[x]?) ∘ fun x => i + x) = fun m => xs[i + m]? := rfl
  rw [e2] at this
  rw [this]

theorem getItem_tuple_cut {t sl : Addr} {items : Array Value} {vl vu : Value} {lo hi : Option Int} {Q : Value → Shared → Prop} (ht : IsTup s.heap t items) (hs : s.heap.IsSliceOf sl vl vu .none) (pl : IsPart vl lo) (pu : IsPart vu hi)
    (hw : ¬ (sIx items.size 0 lo = 0 ∧ sIx items.size items.size hi = items.size))
    (h : Q (.ref s.heap.objs.size) { s with heap := s.heap.push { cls := .type "tuple", data := .seq ((items.toList.drop (sIx items.size 0 lo)).take (sIx items.size items.size hi - sIx items.size 0 lo)).toArray } })
    (hsz : items.size ≤ sizeLine) : wpAny (model prog w) A (getItem (.ref t) (.ref sl)) Q E s := by
  have htake : sizeOk (.seq ((items.toList.drop (sIx items.size 0 lo)).take (sIx items.size items.size hi - sIx items.size 0 lo)).toArray) := by
    show ((items.toList.drop (sIx items.size 0 lo)).take (sIx items.size items.size hi - sIx items.size 0 lo)).toArray.size ≤ sizeLine
    rw [List.size_toArray, List.length_take, List.length_drop, Array.length_toList]
    omega
  have hj : sIx items.size items.size hi ≤ items.size := sIx_le _ _ (Nat.le_refl _) hi
  obtain ⟨os, hos, hcs, hds⟩ := id hs
  have hTs : s.TypeIs (.ref sl) "slice" := ⟨os, hos, hcs⟩
  unfold getItem
  try with_reducible refine wpAny_holding ?_
  first | refine wpAny_bind (wpAny_pure ?_) | skip
  refine wpAny_bind (wpAny_sequenceKey ht.typeIs (by decide) ?_)
  refine wpAny_bind (wpAny_callSpecial?_slot (name := Str.ofString "__getitem__") ht.typeIs PyProof.Rows.slot_tuple_getitem
    (wpAny_call_entry PyProof.Rows.slot_tuple_getitem ht.typeIs entry_tuple_getitem ?_ (args_tuple_getitem _ _)))
  show wpAny _ _ (Builtin.Tuple.tupleItemsOf (.ref t) >>= _) _ _ s
  refine wpAny_bind (tupleItemsOf_ ht ?_)
  refine wpAny_bind (wpAny_typeOf hTs ?_)
  rw [if_pos (by decide)]
  refine wpAny_bind (sliceApplied_gen hs pl pu ?_)
  have hno : ¬ ((((sIx items.size 0 lo : Nat) : Int) == 0 && (1 : Int) == 1 && (sIx items.size items.size hi - sIx items.size 0 lo) == items.size) = true) := by
    intro q
    rw [Bool.and_eq_true, Bool.and_eq_true] at q
    have q1 : ((sIx items.size 0 lo : Nat) : Int) = 0 := eq_of_beq q.1.1
    have q2 : sIx items.size items.size hi - sIx items.size 0 lo = items.size := eq_of_beq q.2
    exact hw ⟨by omega, by omega⟩
  show wpAny _ _ (if (((sIx items.size 0 lo : Nat) : Int) == 0 && (1 : Int) == 1 && (sIx items.size items.size hi - sIx items.size 0 lo) == items.size) = true then _ else _) _ _ s
  rw [if_neg hno, pick_gen]
  first
    | exact wpAny_bind (m := Builtin.Tuple.tupleExact _) (wpAny_newObj_type (wpAny_pure ⟨_, rfl, wpAny_pure h⟩) htake)
    | exact wpAny_bind (m := Builtin.Tuple.tupleExact _) (wpAny_newObj_type (wpAny_bind (wpAny_pure (wpAny_pure ⟨_, rfl, wpAny_pure h⟩))) htake)
    | exact wpAny_bind (wpAny_bind (m := Builtin.Tuple.tupleExact _) (wpAny_newObj_type (wpAny_pure (wpAny_pure ⟨_, rfl, wpAny_pure h⟩)) htake))
    | exact wpAny_bind (wpAny_bind (m := Builtin.Tuple.tupleExact _) (wpAny_newObj_type (wpAny_pure ⟨_, rfl, wpAny_pure h⟩) htake))
end
end HT

namespace L2
open PySem PySem.Spec PyProof.Rows

/-! ### the parts of a slice -/
abbrev TO := St → Hp → (Option Int → Hp → Prop) → Prop
/-- a slice's part (left out, or an int) -/
def PO (X : Cx) (e : Option Expr) (t : TO) : Prop :=
  ∀ (pins : List (Addr × Obj)) (s : Shared) (σ : St) (H : Hp) (Q : Option Int → Hp → Prop), Inv X pins σ H s → t σ H Q →
    wpAny (model X.prog X.w) X.A (evalPart e X.env) (fun u s' => ∃ o H', Inv X pins σ H' s' ∧ IsPart u o ∧ Q o H') X.xe s
def tNoPart : TO := fun _ H Q => Q none H
def tPart (t : TE) : TO := fun σ H Q => t σ H fun x H1 => ∃ i, x = .int i ∧ Q (some i) H1

theorem intsAre_of {ns : List Int} : ∀ {us : List Value}, Vals (ns.map V.int) us → IntsAre us ns := by
  induction ns with
  | nil => intro us r; rw [List.map_nil] at r; cases r; exact .nil
  | cons n ns ih =>
    intro us r
    rw [List.map_cons] at r
    cases r with
    | cons r1 r2 =>
      obtain ⟨t, e⟩ := r1
      subst e
      exact .cons n t (ih r2)

section
variable {X : Cx} {e : Expr} {te : TE} {lo hi : Option Expr} {tl th : TO} {pos p2 : Pos}

theorem po_none : PO X none tNoPart := by
  intro pins s σ H Q I h
  rw [evalPart_none]
  exact wpAny_pure ⟨none, H, I, .none, h⟩
theorem po_some (h : PE X e te) : PO X (some e) (tPart te) := by
  intro pins s σ H Q I hw
  rw [evalPart_some]
  refine thn (h pins s σ H _ I hw) fun u s1 ⟨x, H1, I1, r1, q1⟩ => ?_
  obtain ⟨i, rfl, q⟩ := q1
  obtain ⟨t, rfl⟩ := r1
  exact ⟨some i, H1, I1, .int i t, q⟩

/-- what a slice of a value is, by values: the slice object stands at sl -/
def SlR (X : Cx) (r : V → Option Int → Option Int → Hp → VK → Prop) : Prop :=
  ∀ (pins : List (Addr × Obj)) (s : Shared) (σ : St) (H : Hp) (x : V) (v vl vu : Value) (lo hi : Option Int) (sl : Addr) (Q : VK), Inv X pins σ H s → RelV x v → s.heap.IsSliceOf sl vl vu .none → IsPart vl lo → IsPart vu hi → r x lo hi H Q →
    ∃ T id, typeLookup (.type T) "__getitem__" = pure (some (.builtin id)) ∧ s.TypeIs v T ∧ wpAny (model X.prog X.w) X.A (getItem v (.ref sl)) (EP X pins σ Q) X.xe s
def tSl (r : V → Option Int → Option Int → Hp → VK → Prop) (te : TE) (tl th : TO) : TE := fun σ H Q => te σ H fun x H1 => tl σ H1 fun l H2 => th σ H2 fun u H3 => r x l u H3 Q
/-- a[lo:hi], any a -/
theorem pe_slice {r : V → Option Int → Option Int → Hp → VK → Prop} (hr : SlR X r) (he : PE X e te) (hl : PO X lo tl) (hu : PO X hi th) : PE X (.Subscript e (.Slice lo hi none p2) pos) (tSl r te tl th) := by
  intro pins s σ H Q I h
  refine Subscript_ (thn (he pins s σ H _ I h) fun v s1 ⟨x, H1, I1, r1, q1⟩ => ?_)
  refine wpAny_Slice (thn (hl pins s1 σ H1 _ I1 q1) fun vl s2 ⟨l, H2, I2, pl, q2⟩ => thn (hu pins s2 σ H2 _ I2 q2) fun vu s3 ⟨u, H3, I3, pu, q3⟩ => ?_)
  rw [evalPart_none]
  refine wpAny_pure ?_
  have I4 : Inv X pins σ H3 { s3 with heap := s3.heap.push { cls := .type "slice", data := .fields #[vl, vu, .none] } } := I3.kept (t' := s3.toks) fun b ob q => Heap.get?_push_of_some _ q
  obtain ⟨T, id, hT, ht, hg⟩ := hr pins { s3 with heap := s3.heap.push { cls := .type "slice", data := .fields #[vl, vu, .none] } } σ H3 x v vl vu l u s3.heap.objs.size Q I4 r1 (Heap.IsSliceOf.new ..) pl pu q3
  show wpAny (model X.prog X.w) X.A (subscriptTail e (.Slice lo hi none p2) v (.ref s3.heap.objs.size)) (EP X pins σ Q) X.xe { s3 with heap := s3.heap.push { cls := .type "slice", data := .fields #[vl, vu, .none] } }
  exact tail_any (ops := [.ref s3.heap.objs.size, v]) ht hT hg (by with_unfolding_all rfl)

/-- the items of xs[lo:hi] -/
def cutV (xs : List V) (lo hi : Option Int) : List V := (xs.drop (HT.sIx xs.length 0 lo)).take (HT.sIx xs.length xs.length hi - HT.sIx xs.length 0 lo)
theorem cutV_length (xs : List V) (lo hi : Option Int) : (cutV xs lo hi).length ≤ xs.length := by
  unfold cutV
  rw [List.length_take, List.length_drop]
  omega
/-- t[lo:hi], not the whole of it (the whole would be t itself) -/
def rSlT (K : PySem.W.Frag) : V → Option Int → Option Int → Hp → VK → Prop := fun x lo hi H Q => ∃ a xs, x = .ref a ∧ SqT K H a xs ∧
  ¬ (HT.sIx xs.length 0 lo = 0 ∧ HT.sIx xs.length xs.length hi = xs.length) ∧ ∀ p, H p = none → Q (.ref p) (upd H p (.tup (cutV xs lo hi)))
theorem sl_tup : SlR X (rSlT X.K) := by
  intro pins s σ H x v vl vu lo hi sl Q I rx hs pl pu h
  obtain ⟨a, xs, rfl, hx, hw, q⟩ := h
  cases rx
  obtain ⟨its, r, ht, hz⟩ := I.tuple hx
  have hlen : its.toArray.size = xs.length := by rw [List.size_toArray]; exact r.length.symm
  refine ⟨"tuple", _, PyProof.Rows.slot_tuple_getitem.lookup, ht.typeIs, ?_⟩
  refine HT.getItem_tuple_cut ht hs pl pu (by rw [hlen]; exact hw) ?_ (by rw [hlen]; exact hz)
  rw [hlen]
  refine ⟨.ref s.heap.objs.size, _, I.laid (t' := s.toks) (o := .tup (cutV xs lo hi)) (fun b ob q => Heap.get?_push_of_some _ q) (Nat.le_refl _) ?_, rfl, q _ (I.hok.fresh (Nat.le_refl _))⟩
  exact ⟨Nat.le_trans (cutV_length xs lo hi) hz, _, (r.drop (HT.sIx xs.length 0 lo)).take (HT.sIx xs.length xs.length hi - HT.sIx xs.length 0 lo), IsTup.new _ _⟩

/-! ### t < u, t + u -/
def rLtT (K : PySem.W.Frag) : R2 := fun x y H Q => ∃ a b ns ms, x = .ref a ∧ y = .ref b ∧ SqT K H a (ns.map V.int) ∧ SqT K H b (ms.map V.int) ∧ Q (.bl (HT.lexLt ns ms)) H
/-- t + u, t not empty: u empty gives t itself -/
def rCatT (K : PySem.W.Frag) : R2 := fun x y H Q => ∃ a b xs ys, x = .ref a ∧ y = .ref b ∧ SqT K H a xs ∧ SqT K H b ys ∧ xs ≠ [] ∧ xs.length + ys.length ≤ sizeLine ∧
  (ys = [] → Q (.ref a) H) ∧ (ys ≠ [] → ∀ p, H p = none → Q (.ref p) (upd H p (.tup (xs ++ ys))))
theorem Vals.nil_iff {xs : List V} {us : List Value} (r : Vals xs us) : us = [] ↔ xs = [] := by
  cases r with
  | nil => simp
  | cons _ _ => simp
theorem op_catT : OpR X (binaryOp .Add) (rCatT X.K) := by
  intro pins s σ H x y v u Q I rx ry h
  obtain ⟨a, b, xs, ys, rfl, rfl, ha, hb, hx, hz, q1, q2⟩ := h
  cases rx
  cases ry
  obtain ⟨its, r1, p1, _⟩ := I.tuple ha
  obtain ⟨its2, r2, p2, _⟩ := I.tuple hb
  refine HT.cat_tup p1 p2 (fun z => hx (r1.nil_iff.mp z)) (fun z => ⟨.ref a, H, I, rfl, q1 (r2.nil_iff.mp z)⟩) (fun z => ?_) (by rw [← r1.length, ← r2.length]; exact hz)
  refine ⟨.ref s.heap.objs.size, _, I.laid (t' := s.toks) (o := .tup (xs ++ ys)) (fun b ob q => Heap.get?_push_of_some _ q) (Nat.le_refl _) ?_, rfl, q2 (fun w => z (r2.nil_iff.mpr w)) _ (I.hok.fresh (Nat.le_refl _))⟩
  exact ⟨by rw [List.length_append]; exact hz, _, r1.append r2, IsTup.new _ _⟩
end
end L2

namespace L2
open PySem PySem.Spec PyProof.Rows

/-! ### places -/
/-- the place that an index of any sign means -/
def ixN (n : Nat) (i : Int) : Option Nat := if 0 ≤ i then (if i < n then some i.toNat else none) else if -(n : Int) ≤ i then some (i + n).toNat else none
def atI {α : Type} (xs : List α) (i : Int) : Option α := (ixN xs.length i).bind fun j => xs[j]?
theorem ixN_seq {n : Nat} {i : Int} {j : Nat} (h : ixN n i = some j) : seqIndex? i n = some j ∧ j < n ∧ -(n : Int) ≤ i ∧ i < n := by
  unfold ixN at h
  by_cases h0 : 0 ≤ i
  · rw [if_pos h0] at h
    by_cases h1 : i < n
    · rw [if_pos h1] at h
      have e : i.toNat = j := Option.some.inj h
      exact ⟨by rw [seqIndex_of h0 h1, e], by omega, by omega, h1⟩
    · rw [if_neg h1] at h; cases h
  · rw [if_neg h0] at h
    by_cases h1 : -(n : Int) ≤ i
    · rw [if_pos h1] at h
      have e : (i + n).toNat = j := Option.some.inj h
      exact ⟨by rw [seqIndex_neg (by omega) h1, e], by omega, h1, by omega⟩
    · rw [if_neg h1] at h; cases h
theorem atI_get {α : Type} {xs : List α} {i : Int} {v : α} (h : atI xs i = some v) : ∃ j, seqIndex? i xs.length = some j ∧ xs[j]? = some v ∧ j < xs.length ∧ -(xs.length : Int) ≤ i ∧ i < xs.length := by
  unfold atI at h
  cases e : ixN xs.length i with
  | none => rw [e] at h; cases h
  | some j =>
    rw [e] at h
    obtain ⟨h1, h2, h3, h4⟩ := ixN_seq e
    exact ⟨j, h1, h, h2, h3, h4⟩
theorem atI_nat {α : Type} {xs : List α} {j : Nat} {v : α} (h : xs[j]? = some v) : atI xs (j : Int) = some v := by
  have hj : j < xs.length := (List.getElem?_eq_some_iff.mp h).1
  have e : ixN xs.length (j : Int) = some j := by
    unfold ixN
    rw [if_pos (by omega), if_pos (by omega)]; simp
  unfold atI; rw [e]; exact h

/-! ### what may be subscripted -/
/-- what stands as an index of a plain subscript -/
def PlainIx (b : Expr) : Prop := ∀ o i, subscripted b false o i = operate [o, i] (getItem o i)
/-- a subscript by values -/
def IxR (X : Cx) (r : R2) : Prop :=
  ∀ (value slice : Expr) (pins : List (Addr × Obj)) (s : Shared) (σ : St) (H : Hp) (x y : V) (v u : Value) (Q : VK), Inv X pins σ H s → RelV x v → RelV y u → r x y H Q →
    subscripted slice false v u = operate [v, u] (getItem v u) → wpAny (model X.prog X.w) X.A (subscriptTail value slice v u) (EP X pins σ Q) X.xe s
/-- a call of a builtin's method by values: the receiver, the arguments -/
def MtR (X : Cx) (id : String) (r : V → List V → Hp → VK → Prop) : Prop :=
  ∀ (pins : List (Addr × Obj)) (s : Shared) (σ : St) (H : Hp) (x : V) (xs : List V) (v : Value) (us : List Value) (Q : VK), Inv X pins σ H s → RelV x v → Vals xs us → r x xs H Q →
    wpAny (model X.prog X.w) X.A (call (.builtin id) (v :: us)) (EP X pins σ Q) X.xe s
section
variable {X : Cx} {a b : Expr} {ta tb : TE} {pos : Pos}
/-- a[b] -/
theorem pe_ix {r : R2} (hr : IxR X r) (ha : PE X a ta) (hb : PE X b tb) (hs : PlainIx b) : PE X (.Subscript a b pos) (tOp r ta tb) := by
  intro pins s σ H Q I h
  exact Subscript_ (binT ha hb I h fun v u s2 x y H2 I2 rx ry q => hr a b pins s2 σ H2 x y v u Q I2 rx ry q (hs _ _))

def rIxL (K : PySem.W.Frag) : R2 := fun x y H Q => ∃ p xs i v, x = .ref p ∧ y = .int i ∧ SqL K H p xs ∧ atI xs i = some v ∧ Q v H
def rIxT (K : PySem.W.Frag) : R2 := fun x y H Q => ∃ p xs i v, x = .ref p ∧ y = .int i ∧ SqT K H p xs ∧ atI xs i = some v ∧ Q v H
def rIxS : R2 := fun x y H Q => ∃ z i c, x = .str z ∧ y = .int i ∧ z.length ≤ sizeLine ∧ atI z.cps.toList i = some c ∧ Q (.str ⟨#[c]⟩) H
theorem ix_list : IxR X (rIxL X.K) := by
  intro value slice pins s σ H x y v u Q I rx ry h hs
  obtain ⟨p, xs, i, z, rfl, rfl, hq, he, q⟩ := h
  cases rx
  obtain ⟨t, rfl⟩ := ry
  obtain ⟨its, r, pl, hz⟩ := I.list hq
  obtain ⟨j, h1, h2, h3, h4, h5⟩ := atI_get he
  obtain ⟨w, ew, rw'⟩ := r.get h2
  have hl := r.length
  have hn := line63
  have fin : EP X pins σ Q w s := ⟨z, H, I, rw', q⟩
  by_cases h0 : 0 ≤ i
  · have hj : i.toNat = j := by
      rw [seqIndex_of h0 h5] at h1
      exact Option.some.inj h1
    exact item_listR pl.isList h0 (by omega) (by rw [hj]; simpa using ew) fin hs
  · have hj : (i + (its.toArray.size : Int)).toNat = j := by
      rw [seqIndex_neg (by omega) h4] at h1
      rw [List.size_toArray, ← hl]
      exact Option.some.inj h1
    exact subscriptTail_builtinR (x := w) pl.isList.typeIs slot_list_getitem.lookup
      (wpAny_getItem_list_neg (Q := fun r s' => r = w ∧ EP X pins σ Q r s') pl.isList (by omega) (by rw [List.size_toArray] <;> omega) (by omega) (by rw [hj]; simpa using ew) ⟨rfl, fin⟩) hs
theorem ix_tup : IxR X (rIxT X.K) := by
  intro value slice pins s σ H x y v u Q I rx ry h hs
  obtain ⟨p, xs, i, z, rfl, rfl, hq, he, q⟩ := h
  cases rx
  obtain ⟨t, rfl⟩ := ry
  obtain ⟨its, r, pl, hz⟩ := I.tuple hq
  obtain ⟨j, h1, h2, h3, h4, h5⟩ := atI_get he
  obtain ⟨w, ew, rw'⟩ := r.get h2
  have hl := r.length
  have hn := line63
  have fin : EP X pins σ Q w s := ⟨z, H, I, rw', q⟩
  exact subscriptTail_builtinR (x := w) pl.typeIs slot_tuple_getitem.lookup
    (getItem_tuple (j := j) (Q := fun r s' => r = w ∧ EP X pins σ Q r s') pl (by omega) (by omega) (by rw [List.size_toArray, ← hl]; exact h1) (by simpa using ew) ⟨rfl, fin⟩) hs
theorem ix_str : IxR X rIxS := by
  intro value slice pins s σ H x y v u Q I rx ry h hs
  obtain ⟨z, i, c, rfl, rfl, hz, he, q⟩ := h
  obtain ⟨t, rfl⟩ := rx
  obtain ⟨t', rfl⟩ := ry
  obtain ⟨j, h1, h2, h3, h4, h5⟩ := atI_get he
  have hl : z.cps.toList.length = z.length := by simp [Str.length]
  rw [hl] at h1 h4 h5
  have hn := line63
  exact tail_any (typeIs_str s z t) slot_str_getitem.lookup (getItem_str (c := c) (by
    have e1 : decide (i < -(2 ^ 63 : Int)) = false := decide_eq_false (by omega)
    have e2 : decide (i ≥ 2 ^ 63) = false := decide_eq_false (by omega)
    rw [e1, e2, Bool.or_false]) (by rw [h1]; simpa using h2) ⟨.str ⟨#[c]⟩, H, I.tok _, ⟨_, rfl⟩, q⟩) hs
/-- list, tuple or str -/
def rIx (K : PySem.W.Frag) : R2 := fun x y H Q => rIxL K x y H Q ∨ rIxT K x y H Q ∨ rIxS x y H Q

/-! ### xs[i] = v, any sign -/
/-- the list's object behind a store -/
theorem mapSeq_set (its : List Value) (n j : Nat) (u : Value) : Obj.mapSeq (·.setIfInBounds j u) { cls := .type "list", data := .seq its.toArray n } = { cls := .type "list", data := .seq (its.set j u).toArray n } := by
  simp [Obj.mapSeq]
theorem Inv.lst {pins : List (Addr × Obj)} {σ : St} {H : Hp} {s : Shared} {p : Addr} {xs : List V} (I : Inv X pins σ H s) (h : H p = some (.lst xs)) :
    ∃ (its : List Value) (n : Nat), Vals xs its ∧ s.heap.get? p = some { cls := .type "list", data := .seq its.toArray n } ∧ xs.length ≤ sizeLine := by
  obtain ⟨z, its, n, r, e⟩ := I.hok p _ h
  exact ⟨its, n, r, e, z⟩
/-- the list at p is written by an update of its object -/
theorem Inv.lstUpd {pins : List (Addr × Obj)} {σ : St} {H : Hp} {s : Shared} {p : Addr} {xs ys : List V} {its its' : List Value} {n n' : Nat} {f : Obj → Obj} (I : Inv X pins σ H s) (h : H p = some (.lst xs))
    (ho : s.heap.get? p = some { cls := .type "list", data := .seq its.toArray n }) (hf : f { cls := .type "list", data := .seq its.toArray n } = { cls := .type "list", data := .seq its'.toArray n' }) (r : Vals ys its') (hz : ys.length ≤ sizeLine) (t : Nat) :
    Inv X pins σ (upd H p (.lst ys)) { s with heap := s.heap.update p f, toks := t } := by
  have e : (s.heap.update p f).get? p = some { cls := .type "list", data := .seq its'.toArray n' } := by
    rw [Heap.get?_update_self f ho (by rw [hf] <;> rfl), hf]
  refine I.write (x := p) (e := p) (by rw [h]; trivial) (.inl rfl) (fun b u hb q => (Heap.get?_update_other _ _ (Ne.symm hb)).trans q) ⟨_, e⟩ ?_
  exact ⟨hz, its', n', r, e⟩
def rSetL : V → V → V → Hp → (Hp → Prop) → Prop := fun o i v H Q => ∃ p xs k j, o = .ref p ∧ i = .int k ∧ H p = some (.lst xs) ∧ ixN xs.length k = some j ∧ Q (upd H p (.lst (xs.set j v)))
theorem set_list : PSet X rSetL := by
  intro pins s σ H o i v ov iv u Q I ro ri rv h
  obtain ⟨p, xs, k, j, rfl, rfl, hp, hj, q⟩ := h
  cases ro
  obtain ⟨t, rfl⟩ := ri
  obtain ⟨its, n, r, ho, hz⟩ := I.lst hp
  obtain ⟨h1, h2, h3, h4⟩ := ixN_seq hj
  have hl := r.length
  have hn := line63
  have I' : Inv X pins σ (upd H p (.lst (xs.set j v))) { s with heap := s.heap.update p (Obj.mapSeq (·.setIfInBounds j u)) } :=
    I.lstUpd hp ho (mapSeq_set its n j u) (r.set rv j) (by rw [List.length_set]; exact hz) s.toks
  by_cases h0 : 0 ≤ k
  · have hk : k.toNat = j := by
      rw [seqIndex_of h0 h4] at h1
      exact Option.some.inj h1
    exact PySem.W.ki_setAt ho h0 (by omega) (by rw [List.size_toArray, ← hl]; exact h4) (by rw [hk]; exact ⟨_, I', q⟩)
  · have hk : (k + (its.toArray.size : Int)).toNat = j := by
      rw [seqIndex_neg (by omega) h3] at h1
      rw [List.size_toArray, ← hl]
      exact Option.some.inj h1
    exact PySem.W.ki_setBack ho (by omega) (by rw [List.size_toArray, ← hl]; exact h3) (by omega) (by rw [hk]; exact ⟨_, I', q⟩)

/-! ### slices -/
theorem slice_bounds (lo hi : Option Int) (n : Nat) : (sliceBounds lo hi none n).1 = ((HT.sIx n 0 lo : Nat) : Int) ∧ (sliceBounds lo hi none n).2.1 = ((HT.sIx n n hi : Nat) : Int) ∧ (sliceBounds lo hi none n).2.2 = 1 := by
  refine ⟨?_, ?_, rfl⟩
  · cases lo with
    | none => simp [sliceBounds, HT.sIx]
    | some i =>
      simp only [sliceBounds, HT.sIx, Option.getD_none, show (1 : Int) > 0 by decide, if_true]
      by_cases h : i < 0
      · simp only [h, if_true] <;> omega
      · simp only [h, if_false] <;> omega
  · cases hi with
    | none => simp [sliceBounds, HT.sIx]
    | some i =>
      simp only [sliceBounds, HT.sIx, Option.getD_none, show (1 : Int) > 0 by decide, if_true]
      by_cases h : i < 0
      · simp only [h, if_true] <;> omega
      · simp only [h, if_false] <;> omega
theorem slicePick_cut (its : List Value) (lo hi : Option Int) : slicePick its.toArray lo hi none = ((its.drop (HT.sIx its.length 0 lo)).take (HT.sIx its.length its.length hi - HT.sIx its.length 0 lo)).toArray := by
  obtain ⟨h1, h2, h3⟩ := slice_bounds lo hi its.toArray.size
  unfold slicePick
  rw [h1, h2, h3]
  simp only [sliceRange_one, pick_run, List.size_toArray] <;> rfl
/-- xs[lo:hi] of a list: a new list -/
def rSlL (K : PySem.W.Frag) : V → Option Int → Option Int → Hp → VK → Prop := fun x lo hi H Q => ∃ a xs, x = .ref a ∧ SqL K H a xs ∧ ∀ p, H p = none → Q (.ref p) (upd H p (.lst (cutV xs lo hi)))
theorem sl_list : SlR X (rSlL X.K) := by
  intro pins s σ H x v vl vu lo hi sl Q I rx hs pl pu h
  obtain ⟨a, xs, rfl, hx, q⟩ := h
  cases rx
  obtain ⟨its, r, ht, hz⟩ := I.list hx
  have hlen := r.length
  refine ⟨"list", _, slot_list_getitem.lookup, ht.isList.typeIs, ?_⟩
  refine wpAny_getItem_list_slice ht.isList hs pl pu .none (by simp) ?_ (by rw [List.size_toArray] <;> omega)
  rw [slicePick_cut, ← hlen]
  refine ⟨.ref s.heap.objs.size, _, I.laid (t' := s.toks) (o := .lst (cutV xs lo hi)) (fun b ob q => Heap.get?_push_of_some _ q) (Nat.le_refl _) ?_, rfl, q _ (I.hok.fresh (Nat.le_refl _))⟩
  exact ⟨Nat.le_trans (cutV_length xs lo hi) hz, _, 0, (r.drop (HT.sIx xs.length 0 lo)).take (HT.sIx xs.length xs.length hi - HT.sIx xs.length 0 lo), Heap.get?_push_size _ rfl⟩

/-! ### in, not in: flat items -/
def flatV : V → Bool
  | .non => true
  | .bl _ => true
  | .int _ => true
  | .str _ => true
  | _ => false
/-- == of flat values -/
def eqV : V → V → Bool
  | .non, .non => true
  | .bl a, .bl b => a == b
  | .bl a, .int b => (if a then 1 else 0) == b
  | .int a, .bl b => a == (if b then 1 else 0)
  | .int a, .int b => a == b
  | .str a, .str b => a == b
  | _, _ => false
theorem eqAt_V {A : Around} {s : Shared} {y x : V} {u v : Value} (ry : RelV y u) (rx : RelV x v) (fy : flatV y = true) (fx : flatV x = true) : SeqAt.EqAt A s u v (eqV y x) := by
  cases y with
  | non =>
    cases ry
    cases x with
    | non => cases rx; exact SeqAt.EqAt.same _
    | bl b => cases rx; exact SeqAt.EqAt.none_bool b
    | int b => obtain ⟨t, rfl⟩ := rx; exact SeqAt.EqAt.none_int b t
    | str b => obtain ⟨t, rfl⟩ := rx; exact SeqAt.EqAt.none_str b t
    | _ => exact absurd (show false = true from fx) Bool.false_ne_true
  | bl a =>
    cases ry
    cases x with
    | non => cases rx; exact SeqAt.EqAt.bool_none a
    | bl b => cases rx; exact SeqAt.EqAt.bool_bool a b
    | int b => obtain ⟨t, rfl⟩ := rx; exact SeqAt.EqAt.bool_int a b t
    | str b => obtain ⟨t, rfl⟩ := rx; exact SeqAt.EqAt.bool_str a b t
    | _ => exact absurd (show false = true from fx) Bool.false_ne_true
  | int a =>
    obtain ⟨t', rfl⟩ := ry
    cases x with
    | non => cases rx; exact SeqAt.EqAt.int_none a t'
    | bl b => cases rx; exact SeqAt.EqAt.int_bool a t' b
    | int b => obtain ⟨t, rfl⟩ := rx; exact SeqAt.EqAt.int_int a t' b t
    | str b => obtain ⟨t, rfl⟩ := rx; exact SeqAt.EqAt.int_str a t' b t
    | _ => exact absurd (show false = true from fx) Bool.false_ne_true
  | str a =>
    obtain ⟨t', rfl⟩ := ry
    cases x with
    | non => cases rx; exact SeqAt.EqAt.str_none a t'
    | bl b => cases rx; exact SeqAt.EqAt.str_bool a t' b
    | int b => obtain ⟨t, rfl⟩ := rx; exact SeqAt.EqAt.str_int a t' b t
    | str b => obtain ⟨t, rfl⟩ := rx; exact SeqAt.EqAt.str_str a t' b t
    | _ => exact absurd (show false = true from fx) Bool.false_ne_true
  | _ => exact absurd (show false = true from fy) Bool.false_ne_true
/-- the items' answers, read off the values (a value's own answer does not lean on its token) -/
def eqU (x : V) (u : Value) : Bool := match u with
  | .none => eqV .non x
  | .bool b => eqV (.bl b) x
  | .int i _ => eqV (.int i) x
  | .str z _ => eqV (.str z) x
  | _ => false
theorem eqU_of {x y : V} {u : Value} (r : RelV y u) (f : flatV y = true) : eqU x u = eqV y x := by
  cases y with
  | non => cases r; rfl
  | bl b => cases r; rfl
  | int i => obtain ⟨t, rfl⟩ := r; rfl
  | str z => obtain ⟨t, rfl⟩ := r; rfl
  | _ => exact absurd (show false = true from f) Bool.false_ne_true
theorem any_eqU {x : V} : ∀ {xs : List V} {us : List Value}, Vals xs us → xs.all flatV = true → us.any (eqU x) = xs.any fun y => eqV y x
  | _, _, .nil, _ => rfl
  | y :: xs, u :: us, .cons r t, f => by
    rw [List.all_cons, Bool.and_eq_true] at f
    rw [List.any_cons, List.any_cons, eqU_of r f.1, any_eqU t f.2]
theorem mem_eqAt {A : Around} {s : Shared} {x : V} {v : Value} (rx : RelV x v) (fx : flatV x = true) : ∀ {xs : List V} {us : List Value}, Vals xs us → xs.all flatV = true → ∀ u ∈ us, SeqAt.EqAt A s u v (eqU x u)
  | _, _, .nil, _ => fun u hu => by cases hu
  | y :: xs, u :: us, .cons r t, f => fun u' hu => by
    rw [List.all_cons, Bool.and_eq_true] at f
    rcases List.mem_cons.mp hu with rfl | hu
    · rw [eqU_of r f.1]; exact eqAt_V r rx f.1 fx
    · exact mem_eqAt rx fx t f.2 u' hu
def inV (x : V) (xs : List V) : Bool := xs.any fun y => eqV y x
/-- x in a list or tuple of flat items -/
def rIn (K : PySem.W.Frag) (neg : Bool) : R2 := fun x y H Q => ∃ p xs, y = .ref p ∧ (SqL K H p xs ∨ SqT K H p xs) ∧ flatV x = true ∧ xs.all flatV = true ∧ Q (.bl (if neg then !inV x xs else inV x xs)) H
theorem op_in_seq : OpR X (compareOp .In) (rIn X.K false) := by
  intro pins s σ H x y v u Q I rx ry h
  obtain ⟨p, xs, rfl, hq, fx, fs, q⟩ := h
  cases ry
  rcases hq with hq | hq
  · obtain ⟨its, r, pl, hz⟩ := I.list hq
    refine SeqAt.in_listAt (eqU x) pl.isList (fun w hw => mem_eqAt rx fx r fs w (by simpa using hw)) ⟨.bl _, H, I, rfl, ?_⟩
    rw [show its.toArray.any (eqU x) = its.any (eqU x) by simp, any_eqU r fs]
    exact q
  · obtain ⟨its, r, pl, hz⟩ := I.tuple hq
    refine SeqAt.in_tupleAt (eqU x) pl (fun w hw => mem_eqAt rx fx r fs w (by simpa using hw)) ⟨.bl _, H, I, rfl, ?_⟩
    rw [show its.toArray.any (eqU x) = its.any (eqU x) by simp, any_eqU r fs]
    exact q
theorem op_notIn_seq : OpR X (compareOp .NotIn) (rIn X.K true) := by
  intro pins s σ H x y v u Q I rx ry h
  obtain ⟨p, xs, rfl, hq, fx, fs, q⟩ := h
  cases ry
  rcases hq with hq | hq
  · obtain ⟨its, r, pl, hz⟩ := I.list hq
    refine SeqAt.notIn_listAt (eqU x) pl.isList (fun w hw => mem_eqAt rx fx r fs w (by simpa using hw)) ⟨.bl _, H, I, rfl, ?_⟩
    rw [show its.toArray.any (eqU x) = its.any (eqU x) by simp, any_eqU r fs]
    exact q
  · obtain ⟨its, r, pl, hz⟩ := I.tuple hq
    refine SeqAt.notIn_tupleAt (eqU x) pl (fun w hw => mem_eqAt rx fx r fs w (by simpa using hw)) ⟨.bl _, H, I, rfl, ?_⟩
    rw [show its.toArray.any (eqU x) = its.any (eqU x) by simp, any_eqU r fs]
    exact q

/-! ### len, list(x), tuple(x) of any list or tuple that is read -/
theorem call_len_seq : CallR X (.builtin "len") (fun xs H Q => ∃ p ys, xs = [.ref p] ∧ (SqL X.K H p ys ∨ SqT X.K H p ys) ∧ Q (.int ys.length) H) := by
  intro pins s σ H xs us Q I r h
  obtain ⟨p, ys, rfl, hq, q⟩ := h
  obtain ⟨u, rfl, rx⟩ := vals1 r
  cases rx
  have hn := line63
  rcases hq with hq | hq
  · obtain ⟨its, r', pl, hz⟩ := I.list hq
    have hlen := r'.length
    exact Calls.call_len_list pl.isList (by simp only [List.size_toArray] <;> omega) ⟨.int ys.length, H, I.tok _, ⟨s.toks + 1, by rw [List.size_toArray, hlen]⟩, q⟩
  · obtain ⟨its, r', pl, hz⟩ := I.tuple hq
    have hlen := r'.length
    exact len_tuple pl (by simp only [List.size_toArray] <;> omega) ⟨.int ys.length, H, I.tok _, ⟨s.toks + 1, by rw [List.size_toArray, hlen]⟩, q⟩
theorem call_list_of : CallR X (.type "list") (fun xs H Q => ∃ p ys, xs = [.ref p] ∧ (SqL X.K H p ys ∨ SqT X.K H p ys) ∧ ∀ l, H l = none → Q (.ref l) (upd H l (.lst ys))) := by
  intro pins s σ H xs us Q I r h
  obtain ⟨p, ys, rfl, hq, q⟩ := h
  obtain ⟨u, rfl, rx⟩ := vals1 r
  cases rx
  have fin : ∀ (its : List Value), Vals ys its → ys.length ≤ sizeLine → ∀ (h' : Heap) (c' : Nat), (∀ b o', s.heap.get? b = some o' → h'.get? b = some o') →
      h'.get? s.heap.objs.size = some { cls := .type "list", dict := none, data := .seq its.toArray c', slots := #[] } → EP X pins σ Q (.ref s.heap.objs.size) { s with heap := h' } := fun its r' hz h' c' kp e =>
    ⟨.ref s.heap.objs.size, _, I.laid (t' := s.toks) kp (Nat.le_refl _) (show ObjOk X.prog X.w _ h' _ (.lst ys) from ⟨hz, its, c', r', e⟩), rfl, q _ (I.hok.fresh (Nat.le_refl _))⟩
  rcases hq with hq | hq
  · obtain ⟨its, r', pl, hz⟩ := I.list hq
    have hlen := r'.length
    obtain ⟨o, ho, hc, n, hd⟩ := pl.isList
    exact call_list_seq p (.inl rfl) ho hc hd (fun h' c' kp e => fin its r' hz h' c' kp e) (by simp only [List.size_toArray] <;> omega)
  · obtain ⟨its, r', pl, hz⟩ := I.tuple hq
    have hlen := r'.length
    obtain ⟨o, ho, hc, n, hd⟩ := pl
    exact call_list_seq p (.inr rfl) ho hc hd (fun h' c' kp e => fin its r' hz h' c' kp e) (by simp only [List.size_toArray] <;> omega)

/-! ### the call of a builtin's method: o.m(..) -/
/-- the value is of that builtin type -/
def tyV (K : PySem.W.Frag) (T : String) (x : V) (H : Hp) : Prop := match x with
  | .str _ => T = "str"
  | .int _ => T = "int"
  | .ref p => (T = "list" ∧ ∃ xs, SqL K H p xs) ∨ (T = "tuple" ∧ ∃ o, K.lookup p = some o ∧ o.cls = .type "tuple" ∧ o.dict = none) ∨
      (T = "dict" ∧ ((∃ kvs, H p = some (.dK kvs)) ∨ ∃ kvs, H p = some (.dT kvs))) ∨ (T = "set" ∧ ∃ S n, H p = some (.set S n))
  | _ => False
theorem tyV_is {pins : List (Addr × Obj)} {σ : St} {H : Hp} {s : Shared} {T : String} {x : V} {v : Value} (I : Inv X pins σ H s) (r : RelV x v) (ty : tyV X.K T x H) :
    s.TypeIs v T ∧ ∀ a, v = .ref a → ∃ ob, s.heap.get? a = some ob ∧ ob.dict = none := by
  cases x with
  | str z =>
    obtain ⟨t, rfl⟩ := r
    cases (show T = "str" from ty)
    exact ⟨typeIs_str s z t, fun _ e => nomatch e⟩
  | int i =>
    obtain ⟨t, rfl⟩ := r
    cases (show T = "int" from ty)
    exact ⟨typeIs_int s i t, fun _ e => nomatch e⟩
  | ref p =>
    cases r
    rcases ty with ⟨rfl, xs, hq⟩ | ⟨rfl, o, hk, hc, hd⟩ | ⟨rfl, hk⟩ | ⟨rfl, S, n, hk⟩
    · obtain ⟨its, _, pl, _⟩ := I.list hq
      refine ⟨pl.isList.typeIs, fun a e => ?_⟩
      cases e
      obtain ⟨o, n, e, c, hd, _⟩ := pl
      exact ⟨o, e, hd⟩
    · refine ⟨⟨o, I.kIn p o hk, hc⟩, fun a e => ?_⟩
      cases e
      exact ⟨o, I.kIn _ o hk, hd⟩
    · have z : ∃ o, s.heap.get? p = some o ∧ o.ExactDict := by
        rcases hk with ⟨kvs, hk⟩ | ⟨kvs, hk⟩
        · obtain ⟨_, _, _, _, o, _, _, e, ex, _⟩ := I.hok p _ hk
          exact ⟨o, e, ex⟩
        · obtain ⟨_, _, _, _, o, _, _, e, ex, _⟩ := I.hok p _ hk
          exact ⟨o, e, ex⟩
      obtain ⟨o, e, ex⟩ := z
      refine ⟨⟨o, e, ex.1⟩, fun a e2 => ?_⟩
      cases e2
      exact ⟨o, e, ex.2.1⟩
    · obtain ⟨o, _, _, _, e, ex, _⟩ := I.hok p _ hk
      refine ⟨⟨o, e, ex.1⟩, fun a e2 => ?_⟩
      cases e2
      exact ⟨o, e, ex.2.1⟩
  | _ => exact False.elim ty
def tBM0 (K : PySem.W.Frag) (T : String) (r : V → List V → Hp → VK → Prop) (to : TE) : TE := fun σ H Q => to σ H fun x H1 => tyV K T x H1 ∧ r x [] H1 Q
def tBM (K : PySem.W.Frag) (T : String) (r : V → List V → Hp → VK → Prop) (to : TE) (t : TA) : TE := fun σ H Q => to σ H fun x H1 => tyV K T x H1 ∧ t σ H1 fun xs H2 => r x xs H2 Q
variable {o e : Expr} {es : List Expr} {to : TE} {t : TA} {name : Str} {apos cpos : Pos} {T id : String} {r : V → List V → Hp → VK → Prop}
theorem pe_bm0 (pa : PlainAttrs T) (slot : Slot T name id) (hty : typeOf (.builtin id) = pure (.type "method_descriptor")) (hm : MtR X id r) (ho : PE X o to)
    (hbase : attributeBase o name X.env (eval o X.env) = eval o X.env := by rfl) (hline : (apos.endLine == cpos.line) = true := by rfl) : PE X (.Call (.Attribute o name apos) [] [] cpos) (tBM0 X.K T r to) := by
  intro pins s σ H Q I h
  refine wpAny_Call_method0_late hbase hline (thn (ho pins s σ H _ I h) fun v s1 ⟨x, H1, I1, r1, ty, q1⟩ => ?_)
  obtain ⟨h1, h2⟩ := tyV_is I1 r1 ty
  exact ⟨T, id, pa, slot, hty, h1, h2, Calls.callWith_builtin rfl (PySem.evalArgs_none (hm pins s1 σ H1 x [] v [] Q I1 r1 .nil q1))⟩
theorem pe_bm (pa : PlainAttrs T) (slot : Slot T name id) (hty : typeOf (.builtin id) = pure (.type "method_descriptor")) (hm : MtR X id r) (ho : PE X o to) (ha : PA X (e :: es) t)
    (hbase : attributeBase o name X.env (eval o X.env) = eval o X.env := by rfl)
    (hfew : ((backTo cpos (starEach (e :: es) X.env)).all (fun x => !x.1) && (backToKw cpos (keywordEach [] X.env)).all (fun x => x.1.isSome)
      && decide ((e :: es).length + ([] : List Keyword).length + (if ([] : List Keyword).isEmpty then 0 else 1) < 30)) = true := by rfl)
    (hline : (apos.endLine == cpos.line) = true := by rfl) (hs : starEach (e :: es) X.env = (false, eval e X.env) :: starEach es X.env := by rfl) (hplain : (backTo cpos (starEach es X.env)).any (·.1) = false := by rfl) :
    PE X (.Call (.Attribute o name apos) (e :: es) [] cpos) (tBM X.K T r to t) := by
  intro pins s σ H Q I h
  refine wpAny_Call_method_late hbase hfew hline rfl (thn (ho pins s σ H _ I h) fun v s1 ⟨x, H1, I1, r1, ty, q1⟩ => ?_)
  obtain ⟨h1, h2⟩ := tyV_is I1 r1 ty
  refine ⟨T, id, pa, slot, hty, h1, h2, ?_⟩
  have hA := ha cpos pins s1 σ H1 _ I1 q1
  rw [hs] at hA ⊢
  refine Calls.callWith_builtin (by show (false || (backTo cpos (starEach es X.env)).any (·.1)) = false; rw [hplain] <;> rfl) (Calls.evalArgs_plain ?_)
  exact thn hA fun us s2 ⟨vs, H2, I2, r2, q2⟩ => hm pins s2 σ H2 x vs v us Q I2 r1 r2 q2
/- xs.append(e), list.index on a module's tuple .. are MtR facts of 06m -/
end
end L2

namespace L2
open PySem PySem.Spec PyProof.Rows

def MtM (X : Cx) (id : String) (r : V → List V → Hp → VK → Prop) : Prop :=
  ∀ (pins : List (Addr × Obj)) (s : Shared) (σ : St) (H : Hp) (x : V) (xs : List V) (v : Value) (us : List Value) (Q : VK), Inv X pins σ H s → RelV x v → Vals xs us → r x xs H Q →
    wpAny (model X.prog X.w) X.A (call (.builtin id) (v :: us)) (EP X pins σ Q) X.xe s

/-! ### lists of values -/
theorem Vals.one : ∀ {x : V} {us : List Value}, Vals [x] us → ∃ u, us = [u] ∧ RelV x u
  | _, _, .cons r .nil => ⟨_, rfl, r⟩
theorem Vals.zero : ∀ {us : List Value}, Vals [] us → us = []
  | _, .nil => rfl
theorem Vals.reverse {xs : List V} {us : List Value} (h : Vals xs us) : Vals xs.reverse us.reverse := by
  induction h with
  | nil => exact .nil
  | cons r t ih => rw [List.reverse_cons, List.reverse_cons]; exact Vals.append ih (.cons r .nil)

section
variable {X : Cx} {pins : List (Addr × Obj)} {σ : St} {H : Hp} {s : Shared} {l b : Addr} {xs ys zs : List V}

/-! ### the two steps: a tracked list is rewritten, a new list is laid -/
theorem Inv.lset {its its' : List Value} {n : Nat} {f : Array Value → Array Value} {t' : Nat} (I : Inv X pins σ H s) (hH : H l = some (.lst xs))
    (e : s.heap.get? l = some { cls := .type "list", data := .seq its.toArray n }) (hf : f its.toArray = its'.toArray) (hv : Vals ys its') (hz : ys.length ≤ sizeLine) :
    Inv X pins σ (upd H l (.lst ys)) { s with heap := s.heap.update l (Obj.mapSeq f), toks := t' } := by
  have q := PySem.IsL.update e f
  rw [hf] at q
  refine I.write (x := l) (e := l) (by rw [hH]; exact trivial) (.inl rfl) (fun b' u hb hu => (Heap.get?_update_other s.heap (Obj.mapSeq f) (Ne.symm hb)).trans hu) ⟨_, q⟩ ?_
  exact ⟨hz, its', _, hv, q⟩
theorem Inv.lnew {its : List Value} {t' : Nat} (I : Inv X pins σ H s) (hv : Vals ys its) (hz : ys.length ≤ sizeLine) :
    Inv X pins σ (upd H s.heap.objs.size (.lst ys)) { s with heap := s.heap.push { cls := .type "list", data := .seq its.toArray }, toks := t' } :=
  I.laid (fun _ _ q => Heap.get?_push_of_some _ q) (Nat.le_refl _) ⟨hz, its, 0, hv, Heap.get?_push_size _ rfl⟩
theorem Inv.fresh (I : Inv X pins σ H s) : H s.heap.objs.size = none := I.hok.fresh (Nat.le_refl _)
theorem Inv.lstM (I : Inv X pins σ H s) (hH : H l = some (.lst xs)) : xs.length ≤ sizeLine ∧ ∃ (its : List Value) (n : Nat), Vals xs its ∧ xs.length = its.length ∧ s.heap.get? l = some { cls := .type "list", data := .seq its.toArray n } := by
  obtain ⟨z, its, n, r, e⟩ := I.hok l _ hH
  exact ⟨z, its, n, r, r.length, e⟩

theorem notLongL {n : Nat} (h : n ≤ sizeLine) : Builtin.List.listTooLong n = false := by
  unfold Builtin.List.listTooLong
  exact decide_eq_false (by omega)
end

section
variable {X : Cx}

/-! ### methods -/
def rAppend : V → List V → Hp → VK → Prop := fun x vs H Q => ∃ l xs y, x = .ref l ∧ vs = [y] ∧ H l = some (.lst xs) ∧ xs.length < sizeLine ∧ Q .non (upd H l (.lst (xs ++ [y])))
theorem mt_append : MtM X "list.append" rAppend := by
  intro pins s σ H x vs v us Q I rx rv h
  obtain ⟨l, xs, y, rfl, rfl, hH, hz, q⟩ := h
  cases rx
  obtain ⟨u, rfl, ru⟩ := rv.one
  obtain ⟨z, its, n, r, hl, e⟩ := I.lstM hH
  refine call_meets F.slot_list_append ⟨_, e, rfl⟩ F.entry_list_append (F.args_list_append_2 _ _) (PySem.list_append l its.toArray n u (by rw [List.size_toArray]; omega)) ⟨e, ?_⟩
  refine ⟨.non, _, I.lset (its' := its ++ [u]) hH e (by simp) (r.append (.cons ru .nil)) ?_, rfl, q⟩
  rw [List.length_append, List.length_singleton]
  omega

def rExtend : V → List V → Hp → VK → Prop := fun x vs H Q => ∃ l b xs zs, x = .ref l ∧ vs = [.ref b] ∧ H l = some (.lst xs) ∧ H b = some (.lst zs) ∧ xs.length + zs.length ≤ sizeLine ∧ Q .non (upd H l (.lst (xs ++ zs)))
theorem mt_extend : MtM X "list.extend" rExtend := by
  intro pins s σ H x vs v us Q I rx rv h
  obtain ⟨l, b, xs, zs, rfl, rfl, hH, hB, hz, q⟩ := h
  cases rx
  obtain ⟨u, rfl, ru⟩ := rv.one
  cases ru
  obtain ⟨z, its, n, r, hl, e⟩ := I.lstM hH
  obtain ⟨z2, its2, n2, r2, hl2, e2⟩ := I.lstM hB
  have hsz : its.toArray.size + its2.toArray.size ≤ sizeLine := by rw [List.size_toArray, List.size_toArray]; omega
  have hlong : ¬ (!its.toArray.isEmpty && Builtin.List.listTooLong (its.toArray.size + its2.toArray.size)) = true := by
    rw [notLongL hsz, Bool.and_false]
    exact Bool.false_ne_true
  refine call_meets F.slot_list_extend ⟨_, e, rfl⟩ F.entry_list_extend (F.args_list_extend_2 _ _)
    (AutoSeq1.list_extend_list_list_0 l its.toArray n b its2.toArray n2 hlong (by rw [List.size_toArray]; omega) (by omega)) ⟨e, e2, ?_⟩
  refine ⟨.non, _, I.lset (its' := its ++ its2) hH e (by simp) (r.append r2) ?_, rfl, q⟩
  rw [List.length_append]
  omega

def rPop : V → List V → Hp → VK → Prop := fun x vs H Q => ∃ l xs y, x = .ref l ∧ vs = [] ∧ H l = some (.lst xs) ∧ xs[xs.length - 1]? = some y ∧ Q y (upd H l (.lst xs.dropLast))

def rPopAt : V → List V → Hp → VK → Prop := fun x vs H Q => ∃ l xs i k y, x = .ref l ∧ vs = [.int i] ∧ H l = some (.lst xs) ∧ -(2 ^ 63) ≤ i ∧ i < 2 ^ 63 ∧ seqIndex? i xs.length = some k ∧ xs[k]? = some y ∧ Q y (upd H l (.lst (xs.eraseIdx k)))

def rReverse : V → List V → Hp → VK → Prop := fun x vs H Q => ∃ l xs, x = .ref l ∧ vs = [] ∧ H l = some (.lst xs) ∧ Q .non (upd H l (.lst xs.reverse))

def rClear : V → List V → Hp → VK → Prop := fun x vs H Q => ∃ l xs, x = .ref l ∧ vs = [] ∧ H l = some (.lst xs) ∧ Q .non (upd H l (.lst []))
theorem mt_clear : MtM X "list.clear" rClear := by
  intro pins s σ H x vs v us Q I rx rv h
  obtain ⟨l, xs, rfl, rfl, hH, q⟩ := h
  cases rx
  have hus := rv.zero
  subst hus
  obtain ⟨z, its, n, r, hl, e⟩ := I.lstM hH
  refine call_meets F.slot_list_clear ⟨_, e, rfl⟩ F.entry_list_clear (F.args_list_clear_1 _) (AutoSeq1.list_clear_list_0 l its.toArray n (by rw [List.size_toArray]; omega)) ⟨e, ?_⟩
  exact ⟨.non, _, I.lset (its' := []) (ys := []) hH e rfl .nil (Nat.zero_le _), rfl, q⟩

/-! ### list + list, list += list, list * int -/
def rCat : R2 := fun x y H Q => ∃ l b xs zs, x = .ref l ∧ y = .ref b ∧ H l = some (.lst xs) ∧ H b = some (.lst zs) ∧ xs.length + zs.length ≤ sizeLine ∧ ∀ p, H p = none → Q (.ref p) (upd H p (.lst (xs ++ zs)))
theorem op_cat : OpR X (binaryOp .Add) rCat := by
  intro pins s σ H x y v u Q I rx ry h
  obtain ⟨l, b, xs, zs, rfl, rfl, hH, hB, hz, q⟩ := h
  cases rx
  cases ry
  obtain ⟨z, its, n, r, hl, e⟩ := I.lstM hH
  obtain ⟨z2, its2, n2, r2, hl2, e2⟩ := I.lstM hB
  refine PySem.P.add_list e e2 ?_ (by rw [List.size_toArray, List.size_toArray]; omega)
  have ea : its.toArray ++ its2.toArray = (its ++ its2).toArray := by simp
  rw [ea]
  exact ⟨.ref _, _, I.lnew (t' := s.toks) (r.append r2) (by rw [List.length_append]; omega), rfl, q _ I.fresh⟩
/-- a list times an int (a negative one is nothing) -/
def rRep : R2 := fun x y H Q => ∃ l k xs, x = .ref l ∧ y = .int k ∧ H l = some (.lst xs) ∧ -(2 ^ 63) ≤ k ∧ k < 2 ^ 63 ∧ xs.length * k.toNat ≤ sizeLine ∧
  ∀ p, H p = none → Q (.ref p) (upd H p (.lst (List.replicate k.toNat xs).flatten))

/-! ### del xs[i] -/
end

/-! ### xs[a:b] = ys -/
section
variable {prog : Program} {w : World} {A : Around} {E : Value → Shared → Prop} {s : Shared}
set_option maxRecDepth 100000 in
end

section
variable {X : Cx}
end
end L2

namespace Att
open PySem PySem.W PySem.Calls PyProof.Rows

/-! ### the script -/
theorem ints_of_wellAll {P : Params} {h : Heap} : ∀ (ns : List Int) (vs : List Value), WellAll P h vs (ns.map WData.int) → IntsAre vs ns := by
  intro ns
  induction ns with
  | nil =>
    intro vs w
    rw [List.map_nil] at w
    cases w
    exact .nil
  | cons n ns ih =>
    intro vs w
    rw [List.map_cons] at w
    cases w with
    | cons a b =>
      cases a
      exact .cons _ _ (ih _ b)

theorem script_of {l : OpenLaw} {n : Nat} (hn : l.most = some n) {P : Params} {h : Heap} {args : List WData} {vals : List Value}
    (hpre : l.row.toRowW.claim.pre args = true) (hwl : WellAll P h vals args) :
    ∃ a vs ns, vals = [Value.ref a] ∧ args = [WData.list (ns.map WData.int)] ∧ h.get? a = some { cls := .type "list", data := .seq vs.toArray } ∧ IntsAre vs ns ∧ ns.length ≤ n := by
  have hsh : WShape.hasAll [] args [.list .int] = true := (pre_splitW hpre).1
  have hc : l.pre.holds [] { args := args } = true := (pre_splitW hpre).2
  obtain ⟨d, r, rfl, h1, h2⟩ := hasAllW_cons hsh
  obtain rfl := hasAllW_nil h2
  obtain ⟨xs, rfl, h3⟩ := hasW_list h1
  obtain ⟨ns, rfl⟩ := items_int h3
  have hlen : ns.length ≤ n := by
    unfold OpenLaw.pre at hc
    have h4 : (WTm.not (.lt (.lit (.int (n : Int))) (.len (.arg 0)))).holds [] { args := [.list (ns.map .int)] } = true := by
      have h4 := (holds_andW hc).1
      rw [hn] at h4
      exact h4
    have h5 := condW_of h4 (w_not (w_lt w_lit (w_len_list (w_arg rfl))))
    rw [List.length_map] at h5
    refine Nat.le_of_not_lt fun q => ?_
    have q' : (n : Int) < ((ns.length : Nat) : Int) := by omega
    first
      | (rw [decide_eq_true q'] at h5; exact absurd h5 (by decide))
      | (simp at h5; omega)
  cases hwl with
  | cons w1 w2 =>
    cases w2
    cases w1 with
    | list ho hall => exact ⟨_, _, ns, rfl, rfl, ho, ints_of_wellAll ns _ hall, hlen⟩

theorem post_true (l : OpenLaw) (args : List WData) : l.row.toRowW.claim.post args (.bool true) args = true :=
  postW_of (r := l.row.toRowW) (X := (true == true))
    (show WShape.has [] (.bool true) .bool = true by first | rfl | decide | simp [WShape.has, WShape.arms, WShape.armsAll])
    (show (WTm.eq .res (.lit (.bool true))).value [] { args := args, res := some (.bool true), after := args } = some (.bool (true == true)) from w_eq_bool (w_res rfl) w_lit) rfl

/-! ### the attachment: holds_open's last premise (the goal 'hc' behind k_head) from a wpAny of the law's body -/

/-- the same from a codeAny of the CALL (for a layer whose function contracts speak of calls) -/
theorem attach_call {l : OpenLaw} {n : Nat} {q : Program} {loose : List Str} {XP : (Str → Option Value) → Heap → Prop} {YP : World → Heap → Prop} {d : DefRec}
    (hn : l.most = some n) (hdf : d.params.defaults = [])
    (call : ∀ (w : World) (s₀ s₁ : Shared) (mg mb : Str → Option Value) (fa : Addr) (o : Obj) (pm cd doc : Value) (a : Addr) (vs : List Value) (ns : List Int),
      Ground q loose [] XP w s₀ mg mb s₁.heap → YP w s₁.heap →
      s₁.heap.get? fa = some o → o.data = .func (docDef d.name d.params d.body d.scope pm cd doc) → s₁.heap.CodeRec cd d.name → mg d.name = some (.ref fa) →
      s₁.heap.get? a = some { cls := .type "list", data := .seq vs.toArray } → IntsAre vs ns → ns.length ≤ n → s₁.gens = #[] →
      codeAny (model l.prog w) callerA (.call (.ref fa) ⟨[.ref a], []⟩) (fun r s' => r = .ok (.ret (.bool true)) ∧ OldK s₁.heap s'.heap ∧ s'.os = s₁.os ∧ AllBare s'.gens) s₁) :
    WalkO q loose XP YP l.row.toRowW d [] (fun f vs => PySem.call f vs) := by
  intro w s₀ s₁ mg mb G Y fa o pm cd doc dV kV ho hd hcd hD hmg hg args vals as hpre hlay hrd hwl hlo
  obtain rfl : dV = .none := Dflts.none hD hdf
  obtain rfl : kV = .none := Dflts.noKw hD
  obtain ⟨a, vs, ns, rfl, rfl, hobj, hints, hlen⟩ := script_of hn hpre hwl
  refine enter_call (codeAny_mono (call w s₀ s₁ mg mb fa o pm cd doc a vs ns G Y ho (fd_plain hd) hcd hmg hobj hints hlen hg) fun r s' hq => ?_)
  obtain ⟨rfl, h2, h3, h4⟩ := hq
  exact ⟨.inl ⟨.bool true, .bool true, [], rfl, fun _ => rfl, .bool true, post_true l _, fun _ => ⟨List.Pairwise.nil, fun _ hm => (nomatch hm)⟩⟩, h2, h3, h4⟩


/-! ### rules over ANY heap (no ledger) from facts about the written part K: the library's own take a ledger (News) for what they write -/
section
variable {prog : Program} {w : World} {A : Around} {E : Value → Shared → Prop} {s : Shared} {K : Frag}





/-! the whole heap as the ledger: makes every rule that writes through a ledger a rule over any heap -/
def noObjs (h : Heap) : Heap := { h with objs := #[] }
def ledger (h : Heap) (L d : Addr) : List (Addr × Obj) := (List.range h.objs.size).filterMap fun a => if a = L ∨ a = d then none else (h.get? a).map fun o => (a, o)

end
end Att

namespace L2
open PySem PySem.Spec PyProof.Rows

theorem vals_ints : ∀ {vs : List Value} {ns : List Int}, IntsAre vs ns → Vals (ns.map V.int) vs
  | _, _, .nil => .nil
  | _, _, .cons n t h => .cons ⟨t, rfl⟩ (vals_ints h)

/-- nothing is tracked but the script, known to the object (or it is an object of the module) -/
def Only (H : Hp) : Prop := ∀ b, H b = none ∨ ∃ o xs, H b = some (.frz o (.lst xs))

/-- THE HEAD: the law's promise, at the heap behind the top. F, the promise of the law's def, may use that base is part of the heap (so K.In base, base.Ns mainGlobals mg stand in Mod) -/
theorem law_call {P : Program} {w : World} {K : PySem.W.Frag} {mg mb : Str → Option Value} {CX : CXT} {k : Nat} {fa a : Addr} {fd : FuncData} {x : Str} {sp : Sp} {s₁ : Shared} {vs : List Value} {ns : List Int}
    (KX : K.In s₁.heap) (hns : s₁.heap.Ns mainGlobals mg) (hb : s₁.heap.Ns builtinsNs mb) (hbb : ∀ x : Str, x ≠ "__name__" → mb x = bootBuiltins x) (hlim : s₁.heap.NoLimit) (hg : s₁.gens = #[])
    (ha : s₁.heap.get? a = some { cls := .type "list", data := .seq vs.toArray }) (hi : IntsAre vs ns) (hl : ns.length ≤ sizeLine) (hr : Room k callerA)
    (F : ∀ base : Heap, K.In base → base.Ns mainGlobals mg → FnOk P w K mg base CX k fa fd [x] sp) (hbind : ∀ (s : Shared) (u : Value), BindsTo s fd ⟨[u], []⟩ [(x, u)])
    (hsp : ∀ H : Hp, Only H → SqL K H a (ns.map V.int) → sp [.ref a] H (fun v _ => v = .bl true) fun _ _ _ => False)
    (hCX : ∀ H e s', CX [] H s₁ (fun _ _ _ => False) e s' → False) :
    codeAny (model P w) callerA (.call (.ref fa) ⟨[.ref a], []⟩) (fun r s' => r = .ok (.ret (.bool true)) ∧ OldK s₁.heap s'.heap ∧ s'.os = s₁.os ∧ AllBare s'.gens) s₁ := by
  have rv := vals_ints hi
  have lenV := hi.length
  -- from an abstract heap in which nothing but the script may be tracked
  have core : ∀ H : Hp, Only H → SqL K H a (ns.map V.int) → HOk P w H s₁.heap → (∀ b, H b ≠ none → b = a) → (H a ≠ none → K.lookup a = none) →
      codeAny (model P w) callerA (.call (.ref fa) ⟨[.ref a], []⟩) (fun r s' => r = .ok (.ret (.bool true)) ∧ OldK s₁.heap s'.heap ∧ s'.os = s₁.os ∧ AllBare s'.gens) s₁ := by
    intro H hO hS hok hA hK
    have base_of : ∀ {b : Addr} {o : Obj}, s₁.heap.get? b = some o → H b = none → (hidT s₁.heap H).get? b = some o := fun e n => hidT_get e n
    have noA : ∀ {b : Addr} {o : Obj} {es : Array DictEntry} {ep : Nat}, s₁.heap.get? b = some o → o.data = .dict es ep → H b = none := fun {b o es ep} e d => by
      cases q : H b with
      | none => rfl
      | some u =>
        have e' : b = a := hA b (by rw [q]; simp)
        subst e'
        rw [ha] at e; cases e
        have d' : Data.seq vs.toArray _ = Data.dict es ep := d
        cases d'
    have nsK : ∀ {b : Addr} {m : Str → Option Value}, s₁.heap.Ns b m → (hidT s₁.heap H).Ns b m := fun {b m} ⟨o, es, ep, e, d, r⟩ => ⟨o, es, ep, base_of e (noA e d), d, r⟩
    have hKb : K.In (hidT s₁.heap H) := fun b o e => base_of (KX b o e) (by
      cases q : H b with
      | none => rfl
      | some u =>
        have e' : b = a := hA b (by rw [q]; simp)
        subst e'
        rw [hK (by rw [q]; simp)] at e; cases e)
    have hM : Mod K mg (hidT s₁.heap H) := ⟨hKb, nsK hns, ⟨mb, nsK hb, hbb⟩, let ⟨mc, h1, h2⟩ := hlim; ⟨mc, nsK h1, h2⟩⟩
    have e0 : Env0 P w K mg (hidT s₁.heap H) callerA [] s₁ H := ⟨rfl, hM, fun b o e => of_hidT e, Nat.le_of_eq (hidT_size _ _), trivial, fun b hb => absurd (show b ∈ ([] : List Addr) from hb) (by simp), hok, .of_eq hg⟩
    refine codeAny_mono ((F _ hKb (nsK hns)).run callerA [] s₁ H ⟨[.ref a], []⟩ [.ref a] [.ref a] _ _ hr e0 (hbind s₁ (.ref a)) (.cons rfl .nil) (hsp H hO hS)) fun r s' h => ?_
    cases r with
    | error e => exact (hCX H e s' h).elim
    | ok fl =>
      cases fl with
      | next => exact False.elim h
      | brk => exact False.elim h
      | cont => exact False.elim h
      | ret u =>
        obtain ⟨v, H', os, bare, un, hok', r', q⟩ := h
        have q' : v = .bl true := q
        subst q'
        obtain rfl : u = Value.bool true := r'
        refine ⟨rfl, OldK.of_keep fun b o e => ?_, os, bare⟩
        cases q : H b with
        | none => exact un.keep b o e q (by intro z; exact absurd (show b ∈ ([] : List Addr) from z) (by simp)) (by simp)
        | some u =>
          rcases hO b with z | ⟨ob, xs, z⟩
          · rw [q] at z; cases z
          · have z2 := un.frzs b ob _ z
            obtain ⟨e1, _⟩ := hok b _ z
            obtain ⟨e2, _⟩ := hok' b _ z2
            rw [e] at e1; cases e1
            exact e2
  cases hk : K.lookup a with
  | some o =>
    -- the script is one of the module's own objects
    have e := KX a o hk
    rw [ha] at e
    cases e
    refine core (fun _ => none) (fun _ => .inl rfl) (.inr ⟨_, vs.toArray, _, hk, rfl, rfl, rfl, by rw [List.size_toArray, lenV]; exact hl, by simpa using rv⟩) (fun b u z => by have z' : (none : Option HO) = some u := z; cases z') (fun b z => absurd rfl z) fun z => absurd rfl z
  | none =>
    refine core (fun b => if b = a then some (.frz { cls := .type "list", data := .seq vs.toArray } (.lst (ns.map V.int))) else none) (fun b => ?_) (.inl (.inr ⟨{ cls := .type "list", data := .seq vs.toArray }, if_pos rfl⟩)) (fun b u z => ?_) (fun b z => ?_) fun _ => hk
    · by_cases hb : b = a
      · exact .inr ⟨_, _, if_pos hb⟩
      · exact .inl (if_neg hb)
    · by_cases hb : b = a
      · have z' := (if_pos hb).symm.trans z
        cases z'
        subst hb
        exact ⟨ha, by rw [List.length_map]; exact hl, vs, _, rv, ha⟩
      · have z' := (if_neg hb).symm.trans z
        cases z'
    · by_cases hb : b = a
      · exact hb
      · exact absurd (if_neg hb) z
end L2

namespace L2
open PySem PySem.Spec PyProof.Rows

abbrev KOf {K : PySem.W.Frag} {h : Heap} (_ : K.In h) : PySem.W.Frag := K

/-- the goal that k_head leaves (case hc), from the law's promise. F gives the function object fd (K's own) once, then the promise over every base -/
theorem walk_of {l : PySem.W.OpenLaw} {n k : Nat} {q : Program} {loose : List Str} {XP : (Str → Option Value) → Heap → Prop} {YP : World → Heap → Prop} {d : DefRec} {K : Params → PySem.W.Frag} {CX : World → CXT} {sp : World → Sp} {x : Str}
    (hn : l.most = some n) (hn2 : n ≤ sizeLine) (hdf : d.params.defaults = []) (hr : Room k callerA)
    (hY : ∀ (w : World) (h : Heap), YP w h → (K w.params).In h)
    (F : ∀ (w : World) (mg : Str → Option Value) (fa : Addr) (h : Heap), (K w.params).In h → h.Ns mainGlobals mg → mg d.name = some (.ref fa) →
      ∃ fd : FuncData, (∀ (s : Shared) (u : Value), BindsTo s fd ⟨[u], []⟩ [(x, u)]) ∧
        ∀ base : Heap, (K w.params).In base → base.Ns mainGlobals mg → FnOk l.prog w (K w.params) mg base (CX w) k fa fd [x] (sp w))
    (hsp : ∀ (w : World) (H : Hp) (a : Addr) (ns : List Int), ns.length ≤ n → Only H → SqL (K w.params) H a (ns.map V.int) → sp w [.ref a] H (fun v _ => v = .bl true) fun _ _ _ => False)
    (hCX : ∀ (w : World) (H : Hp) (s : Shared) (e : Value) (s' : Shared), CX w [] H s (fun _ _ _ => False) e s' → False) :
    PySem.W.WalkO q loose XP YP l.row.toRowW d [] (fun f vs => PySem.call f vs) := by
  refine Att.attach_call hn hdf fun w s₀ s₁ mg mb fa o pm cd doc a vs ns G Y ho hd hcd hmg hobj hints hlen hg => ?_
  have KX := hY w _ Y
  obtain ⟨fd, hb, hF⟩ := F w mg fa _ KX G.T.g hmg
  exact law_call KX G.T.g G.T.b G.T.builtins G.T.nolimit hg hobj hints (Nat.le_trans hlen hn2) hr hF hb (fun H hO hS => hsp w H a ns hlen hO hS) fun H e s' => hCX w H s₁ e s'
end L2

/- THE LAST THEOREM (shape; LID, My.* are yours):
   My.Adr: a structure of the addresses that your layer names (classes, functions); My.Txt K t: a structure (Prop) of the equations over K;
   My.txt_mk : {K} {implicit addresses ..} (e1 : nsIn K mainGlobals "law" = some (some (.ref f))) (e2 : K.lookup f = some ⟨oc, od, .func (fnOf "law" "law" params body scope dV kV doc pm an cdv ct), sl⟩) (e3 : codeIn K cdv "law" = true) .. : ∃ t, My.Txt K t

set_option maxRecDepth 100000 in
set_option maxHeartbeats 0 in
theorem PySem.Challenge.cw_LID_holds : PySem.Challenge.rw_LID.Holds := by
  w_on; o_law; k_head; (case hw => w_witness2)
  k_fill
  refine L2.walk_of (l := PySem.Challenge.rw_LID) (n := 63) (k := 40) (x := "script") (CX := fun w => ..) (sp := fun _ => My.sp_law) rfl (by decide) rfl ⟨rfl, by decide, by decide⟩ (fun w h Y => PySem.W.kIn_of Y) ?F ?S ?C
  case F =>
    intro w mg fa h KX G hmg
    have T : ∃ t, My.Txt (L2.KOf KX) t := by
      dsimp only [L2.KOf]                          -- K must stand as «<heap const> w.params» for k_is
      refine' My.txt_mk ?e1 ?e2 ?e3 ..
      (case e1 => PySem.W.k_is)                    -- in the order: a name -> its address -> its object -> its parts
      (case e2 => PySem.W.k_is)
      ..
    obtain ⟨t, T⟩ := T
    have e0 := hmg.symm.trans (PySem.W.mg_of KX G T.law)
    cases e0                                       -- fa is the law's own address
    exact ⟨_, fun s u => .of_eq rfl, fun base kb nb => My.law_fn T kb nb⟩     -- if «.of_eq rfl» comes too early: refine' ⟨_, ?b, fun base kb nb => My.law_fn T kb nb⟩; exact fun s u => .of_eq rfl
  case S => exact fun w H a ns hl hO hS => ..
  case C => exact ..
(the tactic k_is has no namespace: write k_is) -/

/-! SHORT WORDS over the layer: a def of the text, its body, what a loop and a test want. -/
namespace L2
open PySem PySem.Spec PyProof.Rows

/-! ### the text by places -/
/-- the j-th statement of a class's body -/
def inClass (s : Stmt) (j : Nat) : Stmt := match s with
  | .ClassDef _ _ _ body _ _ _ _ _ _ _ => body.getD j (.Pass ⟨0, 0, 0, 0⟩)
  | _ => .Pass ⟨0, 0, 0, 0⟩
def defArgs (s : Stmt) : Arguments := match s with
  | .FunctionDef _ a _ _ _ _ _ _ _ _ => a
  | _ => { posonlyargs := [], args := [], vararg := none, kwonlyargs := [], kw_defaults := [], kwarg := none, defaults := [] }
def defBody (s : Stmt) : List Stmt := match s with
  | .FunctionDef _ _ b _ _ _ _ _ _ _ => b
  | _ => []
def defScope (s : Stmt) : Scope := match s with
  | .FunctionDef _ _ _ _ _ _ sc _ _ _ => sc
  | _ => { kind := .function, names := [], isGenerator := false, isCoroutine := false }

/-! ### no exception leaves a def -/
abbrev CX0 : CXT := fun _ _ _ _ _ _ => False
abbrev E0 : XK := fun _ _ _ => False
theorem pass0 {X : Cx} : Passes CX0 X E0 := fun _ _ _ _ _ _ _ h => h.elim

/-! ### a def (or method) of the text as it stands behind the top -/
structure Fun (K : PySem.W.Frag) (x qual : Str) (st : Stmt) (f : Addr) (fd : FuncData) : Prop where
  ex : ∃ (oc : Value) (od : Option Addr) (kV doc pm : Value) (an : Option Addr) (cdv ct : Value) (osl : Array (Option Value)),
    fd = PySem.W.fnOf x qual (defArgs st) (defBody st) (defScope st) .none kV doc pm an cdv ct ∧ K.lookup f = some ⟨oc, od, .func fd, osl⟩ ∧ PySem.W.codeIn K cdv qual = true
  kp : PySem.W.keepIn K (.ref f) = true
section
variable {P : Program} {w : World} {K : PySem.W.Frag} {mg : Str → Option Value} {base : Heap}
/-- THE RULE for a def: its body as a term of rules, and the reading of that term -/
theorem Fun.ok {x qual : Str} {st : Stmt} {f : Addr} {fd : FuncData} {N ps : List Str} {k : Nat} {sp : Sp} (F : Fun K x qual st f fd) (S : FnScope N ps (defScope st)) (len : ∀ vs H Q E, sp vs H Q E → vs.length = ps.length)
    (hbody : ∀ (cdv : Value) (A : Around) (outer : List Env) (s : Shared) (H : Hp) (vs : List V) (Q : VK) (E : XK), Room k (A.deeper (envOfC qual (defScope st) s.heap.objs.size f cdv)) → sp vs H Q E →
      ∃ t, PSs (cxOf CX0 P w K mg base N qual (defScope st) f cdv A outer s H E).nox (defBody st) t ∧ t { nx := fun _ H' => Q .non H', rt := Q } (start N vs) H) : FnOk P w K mg base CX0 (k + 1) f fd ps sp := by
  obtain ⟨oc, od, kV, doc, pm, an, cdv, ct, osl, rfl, lk, hcd⟩ := F.ex
  refine fn_of lk hcd S len fun A outer s H vs Q E hr hsp => ?_
  obtain ⟨t, h, q⟩ := hbody cdv A outer s H vs Q E hr hsp
  exact ⟨t, h.nox, q⟩
/-- how its arguments bind (no defaults): h is «fun _ _ _ _ _ _ us hl => match us, hl with | [_, _], _ => rfl», one _ a parameter -/
theorem Fun.binds {x qual : Str} {st : Stmt} {f : Addr} {fd : FuncData} {ps : List Str} (F : Fun K x qual st f fd)
    (h : ∀ (kV doc pm : Value) (an : Option Addr) (cdv ct : Value) (us : List Value), us.length = ps.length → bindArgs (PySem.W.fnOf x qual (defArgs st) (defBody st) (defScope st) .none kV doc pm an cdv ct) ⟨us, []⟩ = pure (ps.zip us)) : Binds K fd ps [] := by
  obtain ⟨oc, od, kV, doc, pm, an, cdv, ct, osl, rfl, lk, hcd⟩ := F.ex
  exact .all (h kV doc pm an cdv ct)
theorem fun_mk {x qual : Str} {st : Stmt} {f : Addr} {oc : Value} {od an : Option Addr} {osl : Array (Option Value)} {kV doc pm cdv ct : Value} (l : K.lookup f = some ⟨oc, od, .func (PySem.W.fnOf x qual (defArgs st) (defBody st) (defScope st) .none kV doc pm an cdv ct), osl⟩)
    (c : PySem.W.codeIn K cdv qual = true) (k : PySem.W.keepIn K (.ref f) = true) : Fun K x qual st f (PySem.W.fnOf x qual (defArgs st) (defBody st) (defScope st) .none kV doc pm an cdv ct) := ⟨⟨oc, od, kV, doc, pm, an, cdv, ct, osl, rfl, l, c⟩, k⟩
end
theorem small1000 {n : Nat} (h : n ≤ 1000) : n < sizeLine := Nat.lt_of_le_of_lt h (by decide)

/-! ### expressions in short: the name that stands in the i-th slot -/
section
variable {X : Cx}
theorem pv (i : Nat) {x : Str} {pos : Pos} (hN : X.N[i]? = some x := by rfl) (hv : Vis X.env.scope x := by first | exact Or.inl rfl | exact Or.inr (Or.inl rfl) | exact Or.inr (Or.inr rfl)) (hd : (x == ("__debug__" : Str)) = false := by decide)
    (hcd : (x == ("__classdict__" : Str)) = false := by decide) : PE X (.Name x pos) (tVar i) := pe_var hN hv hd hcd
end

/-! ### tests -/
theorem iteF {A B : Prop} (h : B) : if false = true then A else B := by
  rw [if_neg Bool.false_ne_true]
  exact h
theorem iteT {A B : Prop} (h : A) : if true = true then A else B := by
  rw [if_pos rfl]
  exact h
theorem iteNS {c A B : Prop} [Decidable c] (hc : c) (h : B) : if (!decide c) = true then A else B := by
  rw [decide_eq_true hc]
  exact iteF h

/-! ### heaps -/
/-- all that was tracked is as it was -/
def Same (H H' : Hp) : Prop := ∀ b o, H b = some o → H' b = some o
theorem Same.refl (H : Hp) : Same H H := fun _ _ h => h
theorem Same.trans {H H1 H2 : Hp} (a : Same H H1) (b : Same H1 H2) : Same H H2 := fun c o h => b c o (a c o h)
theorem Same.free {H H' : Hp} (e : Same H H') {l : Addr} (h : H' l = Option.none) : H l = Option.none := by
  cases q : H l with
  | none => rfl
  | some o =>
    rw [e l o q] at h
    cases h
theorem Same.seq {K : PySem.W.Frag} {H H' : Hp} {a : Addr} {xs : List V} (e : Same H H') (h : SqL K H a xs) : SqL K H' a xs := by
  rcases h with (h | ⟨o, h⟩) | h
  · exact .inl (.inl (e _ _ h))
  · exact .inl (.inr ⟨o, e _ _ h⟩)
  · exact .inr h

end L2

namespace L2
open PySem PySem.Spec PyProof.Rows
section
variable {X : Cx}
end
/-! ### a dict's pairs: keys that differ -/
section
variable {κ : Type} [DecidableEq κ]
theorem dropK_pos {p : κ × V} {r : List (κ × V)} {k : κ} (e : p.1 = k) : dropK (p :: r) k = dropK r k := by
  unfold dropK
  rw [List.filter_cons, if_neg (by simp [e])]
theorem dropK_neg {p : κ × V} {r : List (κ × V)} {k : κ} (e : ¬ p.1 = k) : dropK (p :: r) k = p :: dropK r k := by
  unfold dropK
  rw [List.filter_cons, if_pos (by simp [e])]
theorem dropK_no : ∀ {kvs : List (κ × V)} {k : κ}, ¬ k ∈ kvs.map (·.1) → dropK kvs k = kvs
  | [], _, _ => rfl
  | p :: r, k, h => by
    have h' : ¬ k ∈ r.map (·.1) := fun m => by
      obtain ⟨q, hq, e⟩ := List.mem_map.mp m
      exact h (List.mem_map.mpr ⟨q, List.mem_cons.mpr (Or.inr hq), e⟩)
    rw [dropK_neg fun e => h (List.mem_map.mpr ⟨p, List.mem_cons.mpr (Or.inl rfl), e⟩), dropK_no h']
theorem dropK_mem {kvs : List (κ × V)} {k : κ} {p : κ × V} (h : p ∈ dropK kvs k) : p ∈ kvs := (List.mem_filter.mp h).1
end
end L2


set_option maxHeartbeats 4400000
/-! MORE RULES over the hand layer (own work): sum, isinstance, dict(d), d != e of equal tables, products of many bits, a comprehension of ints -/
namespace L2
open PySem PySem.Spec PyProof.Rows
section
variable {X : Cx}
/-! ### products -/
def CBits (i j : Int) : Prop := i.natAbs < 2 ^ 1000 ∧ j.natAbs < 2 ^ 1000
/-! ### sum -/
/-! ### isinstance, a built-in type -/
theorem call_isinst : CallR X (.builtin "isinstance") (fun xs H Q => ∃ x n t b, xs = [x, .ty n] ∧ TyOf X.K H x t ∧ PySem.W.kitOne X.K t (.type n) = some b ∧ Q (.bl b) H) := by
  intro pins s σ H xs us Q I r h
  obtain ⟨x, n, t, b, rfl, ty, e, q⟩ := h
  obtain ⟨u, u', rfl, rx, ry⟩ := vals2 r
  obtain rfl : u' = Value.type n := ry
  exact isinst_ok I rx ty e fun tk => ⟨.bl b, H, I.tok tk, rfl, q⟩
/-! ### dict(d) -/
/-! ### d != e, both of the same pairs -/
end
/-! ### a new object at an address that holds none -/
/-! ### [elt for x in xs], xs a list of ints, elt an int and nothing made -/
def tLcI (K : PySem.W.Frag) (tl : TE) (C : St → Int → Prop) (f : St → Int → Int) : TE := fun σ H Q => tl σ H fun y H1 => ∃ (p : Addr) (ns : List Int), y = .ref p ∧ SqL K H1 p (ns.map V.int) ∧ (∀ n ∈ ns, C σ n) ∧
  ∀ q, H1 q = none → Q (.ref q) (upd H1 q (.lst ((ns.map (f σ)).map V.int)))
theorem ite_t {c A B : Prop} [Decidable c] (hc : c) (h : A) : if decide c = true then A else B := by
  rw [if_pos (decide_eq_true hc)]; exact h
theorem ite_f {c A B : Prop} [Decidable c] (hc : ¬ c) (h : B) : if decide c = true then A else B := by
  rw [if_neg (by rw [decide_eq_false hc]; exact Bool.false_ne_true)]; exact h
theorem ite_d {c A B : Prop} [Decidable c] (h1 : c → A) (h2 : ¬ c → B) : if decide c = true then A else B := by
  by_cases h : c
  · exact ite_t h (h1 h)
  · exact ite_f h (h2 h)
theorem Same.new {H : Hp} {p : Addr} (h : H p = none) (o : HO) : Same H (upd H p o) := fun b u q => by rw [upd_ne (ne_of_none q h)]; exact q
end L2

/-! A COMPREHENSION over the hand layer (own work): [elt for target in iter if test], its element and test any code that raises nothing; the block is a context of its own -/
namespace L2
open PySem PySem.Spec PyProof.Rows
/-! ### its closure -/
def clOf (cells : List (Str × Addr)) : List (Str × NameKind) → List (Str × Addr) → List (Str × Addr)
  | [], acc => acc
  | (x, k) :: r, acc => if (k == .free) = true then clOf cells r ((x, (cells.lookup x).getD 0) :: acc) else clOf cells r acc
theorem clOf_lookup {cells : List (Str × Addr)} {x : Str} {c : Addr} : ∀ {names : List (Str × NameKind)} {acc : List (Str × Addr)}, (clOf cells names acc).lookup x = some c → acc.lookup x = some c ∨ ((cells.lookup x).getD 0 = c ∧ (x, NameKind.free) ∈ names)
  | [], acc, h => .inl h
  | (y, k) :: r, acc, h => by
    unfold clOf at h
    by_cases hk : (k == NameKind.free) = true
    · rw [if_pos hk] at h
      have ek : k = .free := by simpa using hk
      rcases clOf_lookup h with h | ⟨h, m⟩
      · rw [List.lookup_cons] at h
        cases hx : x == y with
        | true =>
          rw [hx] at h
          have e : x = y := by simpa using hx
          subst e
          exact .inr ⟨Option.some.inj h, by rw [ek]; exact List.mem_cons_self⟩
        | false =>
          rw [hx] at h
          exact .inl h
      · exact .inr ⟨h, List.mem_cons_of_mem _ m⟩
    · rw [if_neg hk] at h
      rcases clOf_lookup h with h | ⟨h, m⟩
      · exact .inl h
      · exact .inr ⟨h, List.mem_cons_of_mem _ m⟩
theorem clOf_has {cells : List (Str × Addr)} {x : Str} : ∀ {names : List (Str × NameKind)} {acc : List (Str × Addr)}, ((x, NameKind.free) ∈ names ∨ ∃ c, acc.lookup x = some c) → ∃ c, (clOf cells names acc).lookup x = some c
  | [], acc, h => by
    rcases h with h | h
    · cases h
    · exact h
  | (y, k) :: r, acc, h => by
    unfold clOf
    by_cases hk : (k == NameKind.free) = true
    · rw [if_pos hk]
      apply clOf_has
      by_cases hx : x = y
      · subst hx
        exact .inr ⟨(cells.lookup x).getD 0, by rw [List.lookup_cons, beq_self_eq_true]⟩
      · rcases h with h | ⟨c, h⟩
        · rcases List.mem_cons.mp h with e | h
          · cases e; exact absurd rfl hx
          · exact .inl h
        · refine .inr ⟨c, ?_⟩
          rw [List.lookup_cons]
          have : (x == y) = false := by simpa using hx
          rw [this]
          exact h
    · rw [if_neg hk]
      apply clOf_has
      rcases h with h | h
      · rcases List.mem_cons.mp h with e | h
        · cases e; exact absurd rfl hk
        · exact .inl h
      · exact .inr h
theorem closureFor_of {scope : Scope} {env : Env} (h : ∀ y ∈ scope.names, y.2 = .free → ∃ c, env.cells.lookup y.1 = some c) : closureFor scope env = pure (clOf env.cells scope.names []) := by
  have key : ∀ (names : List (Str × NameKind)) (cs : List (Str × Addr)), (∀ y ∈ names, y.2 = .free → ∃ c, env.cells.lookup y.1 = some c) →
      (forIn (m := Sem) names cs fun (x : Str × NameKind) (r : List (Str × Addr)) => (match x with
        | (name, kind) => if (kind == NameKind.free) = true then (do let a ← cellOf env name; pure (ForInStep.yield ((name, a) :: r))) else pure (ForInStep.yield r))) = pure (clOf env.cells names cs) := by
    intro names
    induction names with
    | nil => intro cs _; rfl
    | cons y r ih =>
      intro cs hy
      obtain ⟨x, k⟩ := y
      rw [List.forIn_cons]
      unfold clOf
      by_cases hk : (k == NameKind.free) = true
      · obtain ⟨c, hc⟩ := hy (x, k) List.mem_cons_self (by simpa using hk)
        have hc' : env.cells.lookup x = some c := hc
        have e1 : cellOf env x = pure c := by unfold cellOf; rw [hc']
        simp only [hk, if_true, e1, pure_bind, hc', Option.getD_some]
        exact ih _ fun z hz => hy z (List.mem_cons_of_mem _ hz)
      · simp only [if_neg hk, pure_bind]
        exact ih _ fun z hz => hy z (List.mem_cons_of_mem _ hz)
  have := key scope.names [] h
  simp only [closureFor]
  rw [this]
  rfl
theorem relabel_free {env : Env} : ∀ {names : List (Str × NameKind)} {x : Str}, names.lookup x = some .free →
    (names.map fun (n, k) => if (k == NameKind.free && env.scope.kind == .function && env.kindOf n == some .cell) then (n, NameKind.cell) else (n, k)).lookup x = some .cell ∨
    (names.map fun (n, k) => if (k == NameKind.free && env.scope.kind == .function && env.kindOf n == some .cell) then (n, NameKind.cell) else (n, k)).lookup x = some .free
  | [], _, h => by simp at h
  | (n, k) :: r, x, h => by
    have ih := @relabel_free env r x
    cases hx : x == n with
    | true =>
      rw [List.lookup_cons, hx] at h
      dsimp only at h
      cases h
      by_cases hc : (NameKind.free == NameKind.free && env.scope.kind == .function && env.kindOf n == some .cell) = true
      · left
        rw [List.map_cons]
        show List.lookup x ((if (NameKind.free == NameKind.free && env.scope.kind == .function && env.kindOf n == some .cell) = true then (n, NameKind.cell) else (n, NameKind.free)) :: _) = _
        rw [if_pos hc, List.lookup_cons, hx]
      · right
        rw [List.map_cons]
        show List.lookup x ((if (NameKind.free == NameKind.free && env.scope.kind == .function && env.kindOf n == some .cell) = true then (n, NameKind.cell) else (n, NameKind.free)) :: _) = _
        rw [if_neg hc, List.lookup_cons, hx]
    | false =>
      rw [List.lookup_cons, hx] at h
      dsimp only at h
      rw [List.map_cons]
      show List.lookup x ((if (k == NameKind.free && env.scope.kind == .function && env.kindOf n == some .cell) = true then (n, NameKind.cell) else (n, k)) :: _) = _ ∨
        List.lookup x ((if (k == NameKind.free && env.scope.kind == .function && env.kindOf n == some .cell) = true then (n, NameKind.cell) else (n, k)) :: _) = _
      by_cases hc :
        (k == NameKind.free && env.scope.kind == .function && env.kindOf n == some .cell) = true
      · rw [if_pos hc, List.lookup_cons, hx]; exact ih h
      · rw [if_neg hc, List.lookup_cons, hx]; exact ih h
theorem relabel_kind {env : Env} : ∀ {names : List (Str × NameKind)} {x : Str} {k : NameKind}, (names.map fun (n, k) => if (k == NameKind.free && env.scope.kind == .function && env.kindOf n == some .cell) then (n, NameKind.cell) else (n, k)).lookup x = some k →
    ∃ k', (x, k') ∈ names ∧ (k' = k ∨ k' = .free)
  | [], _, _, h => by simp at h
  | (n, k0) :: r, x, k, h => by
    have ih := @relabel_kind env r x k
    rw [List.map_cons] at h
    have h' : List.lookup x ((if (k0 == NameKind.free && env.scope.kind == .function && env.kindOf n == some .cell) = true then (n, NameKind.cell) else (n, k0)) :: (r.map fun (n, k) => if (k == NameKind.free && env.scope.kind == .function && env.kindOf n == some .cell) then (n, NameKind.cell) else (n, k))) = some k := h
    cases hx : x == n with
    | true =>
      have e : x = n := by simpa using hx
      subst e
      by_cases hc : (k0 == NameKind.free && env.scope.kind == .function && env.kindOf x == some .cell) = true
      · have ek : k0 = .free := by
          have := (Bool.and_eq_true_iff.mp (Bool.and_eq_true_iff.mp hc).1).1
          simpa using this
        exact ⟨k0, List.mem_cons_self, .inr ek⟩
      · rw [if_neg hc, List.lookup_cons, hx] at h'
        exact ⟨k0, List.mem_cons_self, .inl (Option.some.inj h')⟩
    | false =>
      have h2 : List.lookup x (r.map fun (n, k) => if (k == NameKind.free && env.scope.kind == .function && env.kindOf n == some .cell) then (n, NameKind.cell) else (n, k)) = some k := by
        by_cases hc : (k0 == NameKind.free && env.scope.kind == .function && env.kindOf n == some .cell) = true
        · rw [if_pos hc, List.lookup_cons, hx] at h'; exact h'
        · rw [if_neg hc, List.lookup_cons, hx] at h'; exact h'
      obtain ⟨k', m, e⟩ := ih h2
      exact ⟨k', List.mem_cons_of_mem _ m, e⟩
/-! ### the block's context -/
/-- what of the text a comprehension's scope must have: N its names, ix for each the outer slot (a free name) or none -/
structure CompScope (outer : Scope) (NX : List Str) (N : List Str) (ix : List (Option Nat)) (scope : Scope) : Prop where
  kind : scope.kind = .function
  nocell : ∀ y ∈ scope.names, y.2 ≠ .cell
  names : ∀ y ∈ scope.names, y.2 = .local → scope.names.lookup y.1 = some .local
  free : ∀ y ∈ scope.names, y.2 = .free → outer.names.lookup y.1 = some .cell ∨ outer.names.lookup y.1 = some .free
  len : ix.length = N.length
  frees : (N.zip ix).all (fun p => match p.2 with | none => true | some i => NX[i]? == some p.1 && scope.names.lookup p.1 == some .free) = true
def Cx.blk (X : Cx) (N : List Str) (scope : Scope) (C : Addr) (s₀ : Shared) (H₀ : Hp) (ex : List Addr) : Cx :=
  { X with N := N, env := compEnvC scope (clOf X.env.cells scope.names []) C X.env, s₀ := s₀, H₀ := H₀, outer := X.stack, stack := X.stack, ex := ex, fn := fun _ => false, pn := [], xe := fun _ _ => False }
def sgB (ix : List (Option Nat)) (σ : St) : St := ix.map fun o => match o with | none => none | some i => (σ[i]?).getD none
theorem cell_of_cl {X : Cx} {pins : List (Addr × Obj)} {σ : St} {H : Hp} {s : Shared} {outer : Scope} {NX N : List Str} {ix : List (Option Nat)} {scope : Scope} (I : Inv X pins σ H s) (S : CompScope X.env.scope NX N ix scope) {x : Str} {c : Addr}
    (h : (clOf X.env.cells scope.names []).lookup x = some c) : X.env.cells.lookup x = some c := by
  rcases clOf_lookup h with h | ⟨h, m⟩
  · cases h
  · have hk := S.free (x, .free) m rfl
    obtain ⟨c', e⟩ := I.ok.has x hk
    rw [e] at h
    rw [e]
    exact congrArg some h
theorem inv_blk {X : Cx} {pins : List (Addr × Obj)} {σ : St} {H : Hp} {s₃ : Shared} {NX N : List Str} {ix : List (Option Nat)} {scope : Scope} {fp : List Addr} {h₁ : Heap} {t : Nat} (I : Inv X pins σ H s₃) (S : CompScope X.env.scope X.N N ix scope)
    (hf : ∀ b ∈ fp, FpOk X pins H b) (hlt : ∀ b ∈ fp, b < s₃.heap.objs.size) (hns : ∃ m, h₁.Ns s₃.heap.objs.size m) (hk : ∀ b o, s₃.heap.get? b = some o → h₁.get? b = some o) :
    Inv (X.blk N scope s₃.heap.objs.size s₃ H fp) [] (sgB ix σ) H { s₃ with heap := h₁, toks := t } := by
  have nofr : ∀ b ∈ fp, b ∉ frs X.stack := fun b hb z => by
    rcases List.mem_cons.mp (I.stkSub b z) with e | e
    · exact (hf b hb).2.1 e
    · exact (hf b hb).2.2.1 e
  have clc : ∀ {x : Str} {c : Addr}, (clOf X.env.cells scope.names []).lookup x = some c → X.env.cells.lookup x = some c := fun h => cell_of_cl (outer := X.env.scope) I S h
  have ok : (X.blk N scope s₃.heap.objs.size s₃ H fp).Ok := by
    refine ⟨I.ok.mod, S.kind, I.ok.glob, I.ok.blt, Nat.le_refl _, fun x y c h1 h2 => I.ok.inj x y c (clc h1) (clc h2), fun x hx => ?_, fun x c z _ => absurd z (by show ¬ (false = true); decide), I.ok.hd, I.ok.frames, .inl rfl, fun b hb => ⟨Nat.ne_of_lt (hlt b hb), fun x c h => (hf b hb).2.2.2.2.1 x c (clc h)⟩,
      I.bs, Nat.le_trans I.ok.bsz I.sz, fun b o e hb => ?_, nofr, I.stack, I.stkFree⟩
    · have hm : (x, NameKind.free) ∈ scope.names := by
        rcases hx with hx | hx
        · obtain ⟨k', m, e⟩ := relabel_kind (env := X.env) (show (relabel scope X.env).names.lookup x = some .cell from hx)
          rcases e with e | e
          · exact absurd e (S.nocell _ m)
          · rw [e] at m; exact m
        · obtain ⟨k', m, e⟩ := relabel_kind (env := X.env) (show (relabel scope X.env).names.lookup x = some .free from hx)
          rcases e with e | e <;> (rw [e] at m; exact m)
      exact clOf_has (.inl hm)
    · have h0 := (I.ok.bs b o e).1
      rcases (hf b hb).2.2.2.1 with z | z
      · exact I.ok.noex b o e z
      · exact absurd (Nat.lt_of_lt_of_le (Heap.lt_size h0) z) (Nat.lt_irrefl _)
  obtain ⟨m, hn⟩ := hns
  refine ⟨ok, rfl, I.bare, Un.kept hk, ⟨m, hn, fun j x v e1 e2 e3 => ?_⟩, fun x c h => ?_, I.hok.fresh (Nat.le_refl _), fun x c h => I.freeC x c (clc h), fun p hp => absurd (show p ∈ ([] : List (Addr × Obj)) from hp) (by simp), I.hok.kept hk, ?_⟩
  · have e1' : N[j]? = some x := e1
    have e2' : (sgB ix σ)[j]? = some (some v) := e2
    unfold sgB at e2'
    rw [List.getElem?_map] at e2'
    cases eo : ix[j]? with
    | none => rw [eo] at e2'; cases e2'
    | some o =>
      rw [eo] at e2'
      cases o with
      | none => cases e2'
      | some i =>
        have e4 : (σ[i]?).getD none = some v := Option.some.inj e2'
        have hz : (N.zip ix)[j]? = some (x, some i) := by
          rw [List.getElem?_zip_eq_some]; exact ⟨e1', eo⟩
        have ha := List.all_eq_true.mp S.frees _ (List.mem_of_getElem? hz)
        have ha' : (X.N[i]? == some x && scope.names.lookup x == some .free) = true := ha
        obtain ⟨h1, h2⟩ := Bool.and_eq_true_iff.mp ha'
        have hX : X.N[i]? = some x := by simpa using h1
        have hfr : scope.names.lookup x = some .free := by simpa using h2
        have hσ : σ[i]? = some (some v) := by
          cases q : σ[i]? with
          | none => rw [q] at e4; cases e4
          | some w => rw [q] at e4; exact congrArg some e4
        have hm : (x, NameKind.free) ∈ scope.names := PySem.mem_of_lookup hfr
        have hv := S.free _ hm rfl
        obtain ⟨mX, _, hl⟩ := I.loc
        obtain ⟨u, r, l⟩ := hl i x v hX hσ (.inr hv)
        refine ⟨u, r, .inr ⟨relabel_free (env := X.env) hfr, ?_⟩⟩
        rcases l with ⟨k, _⟩ | ⟨_, c, ec, z⟩
        · have k' : X.env.scope.names.lookup x = some .local := k
          rcases hv with hv | hv <;> (rw [hv] at k'; cases k')
        · obtain ⟨c', ec'⟩ := clOf_has (cells := X.env.cells) (acc := []) (.inl hm)
          have : c' = c := Option.some.inj ((clc ec').symm.trans ec)
          subst this
          obtain ⟨o, ho, hd⟩ := z
          exact ⟨c', ec', o, hk _ _ ho, hd⟩
  · obtain ⟨v, o, ho, hd⟩ := I.cell x c (clc h)
    exact ⟨v, o, hk _ _ ho, hd⟩
  · show (sgB ix σ).length = N.length
    unfold sgB
    rw [List.length_map, S.len]
/-- behind the block -/
theorem inv_unblk {X : Cx} {pins : List (Addr × Obj)} {σ σ' : St} {H H' : Hp} {s₃ s' : Shared} {N : List Str} {scope : Scope} {fp : List Addr} {pins' : List (Addr × Obj)} {h' : Heap} (I : Inv X pins σ H s₃)
    (hf : ∀ b ∈ fp, FpOk X pins H b) (I' : Inv (X.blk N scope s₃.heap.objs.size s₃ H fp) pins' σ' H' s') (hs : Heap.SameBut s₃.heap.objs.size s'.heap h') : Inv X pins σ H' { s' with heap := h' } := by
  have ne : ∀ b o, s₃.heap.get? b = some o → b ≠ s₃.heap.objs.size := fun b o e => Nat.ne_of_lt (Heap.lt_size e)
  have u : Un (frs X.stack) fp H H' s₃.heap s'.heap := I'.base
  have u' : Un (frs X.stack) fp H H' s₃.heap h' := by
    refine ⟨fun b o e n hb hx => (hs.2 b (ne b o e)).trans (u.keep b o e n hb hx), fun b o e n hb hx => ?_, u.free, fun b o e hx => ?_, u.tups, u.frzs, u.tbls⟩
    · obtain ⟨sl, q⟩ := u.slot b o e n hb hx
      exact ⟨sl, (hs.2 b (ne b o e)).trans q⟩
    · obtain ⟨o', q⟩ := u.there b o e hx
      exact ⟨o', (hs.2 b (ne b o e)).trans q⟩
  have nC : H' s₃.heap.objs.size = none := I'.free
  have hok : HOk X.prog X.w H' h' := fun b o e => by
    refine (I'.hok b o e).stay (fun c v hc q => (hs.2 c ?_).trans q) (fun _ q => q) fun _ _ q => q
    rcases hc with z | z
    · rw [z]; intro w; rw [w] at e; rw [nC] at e; cases e
    · intro w; rw [w] at z; rw [nC] at z; cases z
  exact I.call' (s' := { s' with heap := h' }) (ch := fp) I'.os u' hok I'.bare fun b hb => ⟨(hf b hb).2.2.2.1, (hf b hb).2.1, (hf b hb).2.2.2.2.1, (hf b hb).2.2.2.2.2⟩
/-! ### the loop -/
/-- the tests of a clause -/
def PTs (X : Cx) (ifs : List Expr) (t : TT) : Prop :=
  ∀ (pins : List (Addr × Obj)) (s : Shared) (σ : St) (H : Hp) (Q : Bool → Hp → Prop), Inv X pins σ H s → t σ H Q →
    wpAny (model X.prog X.w) X.A (forIn ifs true fun c r => if r = true then do let ok ← isTrue c X.env (eval c X.env); pure (ForInStep.yield ok) else pure (ForInStep.yield r)) (TP X pins σ Q) X.xe s
def tTrue : TT := fun _ H Q => Q true H
theorem pts_nil {X : Cx} : PTs X [] tTrue := fun pins s σ H Q I h => wpAny_tests_nil ⟨H, I, h⟩
theorem pts_one {X : Cx} {c : Expr} {t : TT} (h : PT X c t) : PTs X [c] t := fun pins s σ H Q I hw => wpAny_tests_one (h pins s σ H Q I hw)
theorem compLoop_own {prog : Program} {w : World} {A : Around} {R : Result → Shared → Prop} {s : Shared} {elt target iter : Expr} {ifs : List Expr} {scope : Scope} {pos : Pos} {it acc : Value} {env : Env} (I : Nat → Shared → Prop)
    (turn : ∀ n s, I n s →
      wpAny (model prog w) A (pyNext it) (fun r s₁ => match r with
      | none => R (.ok .next) s₁
      | some v => wpAny (model prog w) A (letOwnedTupleGo target it v) (fun _ s₂ => wpAny (model prog w) A (assign target env v) (fun _ s₃ =>
          wpAny (model prog w) A (forIn ifs true fun c r => if r = true then do let ok ← isTrue c env (eval c env); pure (ForInStep.yield ok) else pure (ForInStep.yield r)) (fun ok s₄ =>
            if ok = true then wpAny (model prog w) A (eval elt env) (fun x s₅ =>
              wpAny (model prog w) A (call (.builtin "list.append") [acc, x]) (fun _ s₆ => ∃ m, m < n ∧ I m s₆) (fun _ _ => False) s₅) (fun _ _ => False) s₄
            else ∃ m, m < n ∧ I m s₄) (fun _ _ => False) s₃) (fun _ _ => False) s₂) (fun _ _ => False) s₁) (fun _ _ => False) s)
    (n : Nat) (h : I n s) : codeAny (model prog w) A (.compLoop (.ListComp elt [⟨target, iter, ifs, 0⟩] scope pos) 0 it acc env) R s := by
  refine codeAny_loop rfl I (fun n s hTurn => ?_) n h
  show wpAny _ A
    ((compTurn (.ListComp elt [⟨target, iter, ifs, 0⟩] scope pos) 0 it acc env).onRaise
      (fun x => do noteFrame x env; theTreesLotGoes x)) _ _ s
  refine wpAny_noted ?_
  rw [compTurn_list]
  have no : ∀ {E : Value → Shared → Prop} (x : Value) (s : Shared), False → E x s := fun _ _ f => f.elim
  refine wpAny_bind (wpAny_standAt (wpAny_bind (wpAny_mono (turn n s hTurn) (fun r s₁ h₁ => ?_) no)))
  cases r with
  | none => exact wpAny_pure h₁
  | some v =>
    refine wpAny_bind (wpAny_mono h₁ (fun _ s₂ h₂ => wpAny_bind (wpAny_mono h₂ (fun _ s₃ h₃ => wpAny_bind (wpAny_mono h₃ (fun ok s₄ h₄ => ?_) no)) no)) no)
    cases ok with
    | false => exact wpAny_pure ⟨rfl, h₄⟩
    | true => exact wpAny_bind (wpAny_bind (wpAny_mono h₄ (fun x s₅ h₅ => wpAny_bind (wpAny_mono h₅ (fun _ s₆ h₆ => wpAny_pure (wpAny_pure ⟨rfl, h₆⟩)) no)) no))
/-- W: the invariant by the turn, a measure and the items so far; D: the new list -/
def LcW (J : It) (D : Addr) (g : TG) (tt : TT) (te : TE) (Q : VK) (σ0 : St) (H0 : Hp) : Prop :=
  ∃ W : Nat → Nat → List V → St → Hp → Prop, (∃ m, W 0 m [] σ0 H0) ∧ ∀ i m ys σ' H', W i m ys σ' H' →
    ((J.stop i H' ∧ Q (.ref D) H') ∨ (J.go i H' ∧ ∃ N : List V → St → Hp → Prop, (∀ ys' σ2 H2, N ys' σ2 H2 → ∃ m', m' < m ∧ W (i + 1) m' ys' σ2 H2) ∧
      ∀ x H2, J.yld i H' x H2 → g x σ' H2 fun σ3 H3 => tt σ3 H3 fun b H4 => if b = true then te σ3 H4 fun y H5 => H5 D = some (.lst ys) ∧ ys.length < sizeLine ∧ N (ys ++ [y]) σ3 (upd H5 D (.lst (ys ++ [y]))) else N ys σ3 H4))
def tLc (ix : List (Option Nat)) (wi : TI) (g : TG) (tt : TT) (te : TE) : TE := fun σ H Q => wi σ H fun J H1 => ∀ D, H1 D = none → LcW J D g tt te Q (sgB ix σ) (upd H1 D (.lst []))
theorem lc_gen {X : Cx} {elt tg iter : Expr} {ifs : List Expr} {scope : Scope} {pos ipos : Pos} {N : List Str} {ix : List (Option Nat)} {wi : TI} {g : TG} {tt : TT} {te : TE} (hc : X.calm = true) (S : CompScope X.env.scope X.N N ix scope) (hi : PI X tg iter wi)
    (hg : ∀ C s₀ H₀ ex, PG (X.blk N scope C s₀ H₀ ex) tg g) (ht : ∀ C s₀ H₀ ex, PTs (X.blk N scope C s₀ H₀ ex) ifs tt) (he : ∀ C s₀ H₀ ex, PE (X.blk N scope C s₀ H₀ ex) elt te)
    (hs : ∀ x, foldedSetIterable iter X.env x = pure x) {pins : List (Addr × Obj)} {s : Shared} {σ : St} {H : Hp} {Q : VK} (I : Inv X pins σ H s) (h : tLc ix wi g tt te σ H Q) (use : Option (Value → Sem Unit)) (Qv : Value → Shared → Prop)
    (fin : ∀ {s₃ s6 : Shared} {H3 H6 : Hp} {σ6 : St} {fp : List Addr} {D : Addr}, Inv X pins σ H3 s₃ → (∀ b ∈ fp, FpOk X pins H3 b) → Inv (X.blk N scope s₃.heap.objs.size s₃ H3 fp) [] σ6 H6 s6 → Q (.ref D) H6 →
      compPost (model X.prog X.w) X.A X.xe use Qv (.ref D) s₃.heap.objs.size (.ok .next) s6) :
    wpAny (model X.prog X.w) X.A (comprehension (.ListComp elt [⟨tg, iter, ifs, 0⟩] scope pos) scope X.env ipos (newList []) false (eval iter X.env) use) Qv X.xe s := by
  refine wpAny_comprehension_free (use := use) rfl hs (closureFor_of fun y hy e => I.ok.has y.1 (S.free y hy e)) S.kind S.names (thn (hi pins s σ H _ I h) fun xv s₁ h₁ => thn h₁ fun itv s₂ h₂ => ?_)
  obtain ⟨it, fp, tn, J, H2, e, I2, T, st2, f2, lc⟩ := h₂
  subst e
  obtain ⟨W, ⟨m0, w0⟩, turn⟩ := lc s₂.heap.objs.size (I2.hok.fresh (Nat.le_refl _))
  refine wpAny_newObj_type (wpAny_newFunctionEnv S.nocell (by intro y hy; simp at hy) (fun h₁ hns₁ hsb₁ => ?_) S.kind)
  have I3 : Inv X pins σ (upd H2 s₂.heap.objs.size (.lst [])) { s₂ with heap := s₂.heap.push { cls := .type "list", dict := none, data := .seq ([] : List Value).toArray } } :=
    I2.laid (t' := s₂.toks) (fun b u e => Heap.get?_push_of_some _ e) (Nat.le_refl _) (show ObjOk X.prog X.w _ _ _ (.lst []) from ⟨Nat.zero_le _, [], 0, .nil, Heap.get?_push_size _ rfl⟩)
  generalize hs3 : ({ s₂ with heap := s₂.heap.push { cls := .type "list", dict := none, data := .seq ([] : List Value).toArray } } : Shared) = s₃ at I3 hns₁ hsb₁ ⊢
  have old : ∀ b o, s₃.heap.get? b = some o → h₁.get? b = some o := fun b o e => (hsb₁.2 b (Nat.ne_of_lt (Heap.lt_size e))).trans (Heap.get?_push_of_some _ e)
  have old2 : ∀ b o, s₂.heap.get? b = some o → s₃.heap.get? b = some o := fun b o e => by rw [← hs3]; exact Heap.get?_push_of_some _ e
  have sz : s₃.heap.objs.size = s₂.heap.objs.size + 1 := by rw [← hs3]; exact Heap.size_push ..
  have hlt2 : ∀ b ∈ fp, b < s₂.heap.objs.size := fun b hb => by
    obtain ⟨o, e, _⟩ := T.obj 0 _ st2 b hb
    exact Heap.lt_size e
  have hlt : ∀ b ∈ fp, b < s₃.heap.objs.size := fun b hb => by rw [sz]; exact Nat.lt_succ_of_lt (hlt2 b hb)
  have f3 : ∀ b ∈ fp, FpOk X pins (upd H2 s₂.heap.objs.size (.lst [])) b := fun b hb => ⟨by rw [upd_ne (Nat.ne_of_lt (hlt2 b hb))]; exact (f2 b hb).1, (f2 b hb).2⟩
  have I4 : Inv (X.blk N scope s₃.heap.objs.size s₃ (upd H2 s₂.heap.objs.size (.lst [])) fp) [] (sgB ix σ) (upd H2 s₂.heap.objs.size (.lst [])) { s₃ with heap := h₁, toks := s₃.toks + ([] : List (Str × Value)).length } :=
    inv_blk (NX := X.N) I3 S f3 hlt ⟨_, hns₁⟩ old
  have st4 : tn 0 h₁ := T.keep _ _ _ st2 fun b hb o e => old b o (old2 b o e)
  have fixed : ∀ b ∈ fp, b ≠ s₃.heap.objs.size ∧ b ∉ frs X.stack ∧ ∀ x c, (clOf X.env.cells scope.names []).lookup x = some c → c ≠ b := fun b hb =>
    ⟨Nat.ne_of_lt (hlt b hb), I4.ok.exfs b hb, fun x c h => (I4.ok.exf b hb).2 x c h⟩
  have stat : ∀ {H' : Hp}, (∀ b ∈ fp, H' b = none) → ∀ b ∈ fp, FpOk (X.blk N scope s₃.heap.objs.size s₃ (upd H2 s₂.heap.objs.size (.lst [])) fp) [] H' b := fun hn b hb =>
    ⟨hn b hb, (fixed b hb).1, (fixed b hb).2.1, .inl hb, (fixed b hb).2.2, fun p hp => absurd (show p ∈ ([] : List (Addr × Obj)) from hp) (by simp)⟩
  have loop : codeAny (model X.prog X.w) X.A (.compLoop (.ListComp elt [⟨tg, iter, ifs, 0⟩] scope pos) 0 (.ref it) (.ref s₂.heap.objs.size) (compEnvC scope (clOf X.env.cells scope.names []) s₃.heap.objs.size X.env))
      (compPost (model X.prog X.w) X.A X.xe use Qv (.ref s₂.heap.objs.size) s₃.heap.objs.size) { s₃ with heap := h₁, toks := s₃.toks + ([] : List (Str × Value)).length } := by
    refine compLoop_own (fun n s' => ∃ i ys σ' H', Inv (X.blk N scope s₃.heap.objs.size s₃ (upd H2 s₂.heap.objs.size (.lst [])) fp) [] σ' H' s' ∧ tn i s'.heap ∧ (∀ b ∈ fp, H' b = none) ∧ W i n ys σ' H') ?_ m0 ⟨0, [], sgB ix σ, _, I4, st4, fun b hb => (f3 b hb).1, w0⟩
    rintro n s5 ⟨i, ys, σ5, H5, I5, st5, fr5, w5⟩
    rcases turn i n ys σ5 H5 w5 with ⟨stop, qn⟩ | ⟨go, Nn, hN, step⟩
    · refine thn (T.done (X.blk N scope s₃.heap.objs.size s₃ (upd H2 s₂.heap.objs.size (.lst [])) fp) rfl rfl rfl hc i [] s5 σ5 H5 _ I5 (stat fr5) st5 stop) fun r s6 ⟨hr, I6⟩ => ?_
      subst hr
      exact fin I3 f3 I6 qn
    · refine thn (T.item (X.blk N scope s₃.heap.objs.size s₃ (upd H2 s₂.heap.objs.size (.lst [])) fp) rfl rfl rfl hc i [] s5 σ5 H5 _ I5 (stat fr5) st5 go) fun r s6 ⟨u, hr, h6⟩ => ?_
      subst hr
      refine thn h6 fun _ s7 ⟨x, H7, I7, r7, y7, st7, fr7⟩ => ?_
      have I7' := I7.pinned (stat fr7) (T.obj _ _ st7)
      have again : ∀ {ys' : List V} {σ8 : St} {H8 : Hp} {s8 : Shared}, Inv (X.blk N scope s₃.heap.objs.size s₃ (upd H2 s₂.heap.objs.size (.lst [])) fp) ([] ++ pinsAt fp s7.heap) σ8 H8 s8 → Nn ys' σ8 H8 →
          ∃ m, m < n ∧ ∃ i ys σ' H', Inv (X.blk N scope s₃.heap.objs.size s₃ (upd H2 s₂.heap.objs.size (.lst [])) fp) [] σ' H' s8 ∧ tn i s8.heap ∧ (∀ b ∈ fp, H' b = none) ∧ W i m ys σ' H' := fun {ys' σ8 H8 s8} I8 n8 => by
        obtain ⟨m', hm, w8⟩ := hN ys' σ8 H8 n8
        refine ⟨m', hm, i + 1, ys', σ8, H8, I8.unpinned, T.keep _ _ _ st7 fun b hb o e => (I8.pin (b, o) (List.mem_append_right _ (List.mem_append_right _ (mem_pinsAt hb e)))).1, fun b hb => ?_, w8⟩
        obtain ⟨o, e, d⟩ := T.obj _ _ st7 b hb
        exact (I8.pin (b, o) (List.mem_append_right _ (List.mem_append_right _ (mem_pinsAt hb e)))).2.1
      refine thn (hg _ _ _ _ _ s7 σ5 H7 x u _ I7' r7 (step x H7 y7)) fun _ s8 ⟨σ8, H8, I8, q8⟩ => ?_
      refine thn (ht _ _ _ _ _ s8 σ8 H8 _ I8 q8) fun b s9 ⟨H9, I9, q9⟩ => ?_
      cases b with
      | false => exact again I9 q9
      | true =>
        refine thn (he _ _ _ _ _ s9 σ8 H9 _ I9 q9) fun v s10 ⟨y, H10, I10, r10, hD, hz, n10⟩ => ?_
        refine thn (mt_append _ s10 σ8 H10 (.ref s₂.heap.objs.size) [y] (.ref s₂.heap.objs.size) [v] (fun _ H11 => Nn (ys ++ [y]) σ8 H11) I10 rfl (.cons r10 .nil) ⟨_, ys, y, rfl, rfl, hD, hz, n10⟩) fun _ s11 ⟨_, H11, I11, _, n11⟩ => ?_
        exact again I11 n11
  refine codeAny_compStart_list loop ?_
  exact T.self X.A 0 _ _ _ st4 loop
/-- [elt for target in iter if test] as a value; osc, NX: the scope and the names of the def around it -/
theorem pe_lc {X : Cx} (osc : Scope) (NX : List Str) {elt tg iter : Expr} {ifs : List Expr} {scope : Scope} {pos : Pos} {N : List Str} {ix : List (Option Nat)} {wi : TI} {g : TG} {tt : TT} {te : TE} (hc : X.calm = true) (S : CompScope osc NX N ix scope) (hi : PI X tg iter wi)
    (hg : ∀ C s₀ H₀ ex, PG (X.blk N scope C s₀ H₀ ex) tg g) (ht : ∀ C s₀ H₀ ex, PTs (X.blk N scope C s₀ H₀ ex) ifs tt) (he : ∀ C s₀ H₀ ex, PE (X.blk N scope C s₀ H₀ ex) elt te)
    (ho : X.env.scope = osc := by rfl) (hN : X.N = NX := by rfl) (hs : ∀ x, foldedSetIterable iter X.env x = pure x := by intro _; rfl) : PE X (.ListComp elt [⟨tg, iter, ifs, 0⟩] scope pos) (tLc ix wi g tt te) := by
  intro pins s σ H Q I h
  subst ho hN
  rw [eval_ListComp]
  refine lc_gen hc S hi hg ht he hs I h none (EP X pins σ Q) fun {s₃ s6 H3 H6 σ6 fp D} I3 f3 I6 qn => ?_
  obtain ⟨m, hn, _⟩ := I6.loc
  exact ⟨m, hn, fun h' hs' => ⟨.ref D, H6, inv_unblk I3 f3 I6 hs', rfl, qn⟩⟩
/-! ### the forms one uses -/
section
variable {K : PySem.W.Frag} {a D : Addr} {xs : List V} {g : TG} {tt : TT} {te : TE} {σ0 : St} {H0 : Hp} {Q : VK}
/-- over a list that the block leaves as it is -/
theorem lc_list (Pv : Nat → List V → St → Hp → Prop) (h0 : Pv 0 [] σ0 H0) (hl : ∀ i ys σ H, i ≤ xs.length → Pv i ys σ H → SqL K H a xs)
    (hs : ∀ i x ys σ H, xs[i]? = some x → Pv i ys σ H → g x σ H fun σ3 H3 => tt σ3 H3 fun b H4 => if b = true then te σ3 H4 fun y H5 => H5 D = some (.lst ys) ∧ ys.length < sizeLine ∧ Pv (i + 1) (ys ++ [y]) σ3 (upd H5 D (.lst (ys ++ [y]))) else Pv (i + 1) ys σ3 H4)
    (hd : ∀ ys σ H, Pv xs.length ys σ H → Q (.ref D) H) :
    LcW (Itl K a) D g tt te Q σ0 H0 := by
  refine ⟨fun i m ys σ H => m = xs.length - i ∧ i ≤ xs.length ∧ Pv i ys σ H, ⟨xs.length, by simp, Nat.zero_le _, h0⟩, ?_⟩
  rintro i m ys σ H ⟨rfl, hi, p⟩
  have q := hl i ys σ H hi p
  by_cases hlt : i < xs.length
  · refine .inr ⟨⟨xs, xs[i], q, by simp [hlt]⟩, fun ys' σ' H' => Pv (i + 1) ys' σ' H', fun ys' σ' H' p' => ⟨xs.length - (i + 1), by omega, rfl, hlt, p'⟩, fun x H' y => ?_⟩
    obtain ⟨e, y⟩ := y
    subst e
    exact hs i x ys σ _ (y xs q) p
  · have e : i = xs.length := by omega
    subst e
    exact .inl ⟨⟨xs, q, Nat.le_refl _⟩, hd ys σ H p⟩
theorem lc_range {lo : Int} {n : Nat} (Pv : Nat → List V → St → Hp → Prop) (h0 : Pv 0 [] σ0 H0)
    (hs : ∀ i ys σ H, i < n → Pv i ys σ H → g (.int (lo + i)) σ H fun σ3 H3 => tt σ3 H3 fun b H4 => if b = true then te σ3 H4 fun y H5 => H5 D = some (.lst ys) ∧ ys.length < sizeLine ∧ Pv (i + 1) (ys ++ [y]) σ3 (upd H5 D (.lst (ys ++ [y]))) else Pv (i + 1) ys σ3 H4)
    (hd : ∀ ys σ H, Pv n ys σ H → Q (.ref D) H) :
    LcW (Itr lo n) D g tt te Q σ0 H0 := by
  refine ⟨fun i m ys σ H => m = n - i ∧ i ≤ n ∧ Pv i ys σ H, ⟨n, by simp, Nat.zero_le _, h0⟩, ?_⟩
  rintro i m ys σ H ⟨rfl, hi, p⟩
  by_cases hlt : i < n
  · refine .inr ⟨hlt, fun ys' σ' H' => Pv (i + 1) ys' σ' H', fun ys' σ' H' p' => ⟨n - (i + 1), by omega, rfl, hlt, p'⟩, fun x H' y => ?_⟩
    obtain ⟨e, y⟩ := y
    subst e y
    exact hs i ys σ _ hlt p
  · have e : i = n := by omega
    subst e
    exact .inl ⟨Nat.le_refl _, hd ys σ H p⟩
end
end L2

/-! STILL MORE RULES over the hand layer (own work): // by any short divisor, t + u, == and != with [], slices and find of texts, count and index of lists, a def by its name -/
namespace L2
open PySem PySem.Spec PyProof.Rows
section
variable {X : Cx}
def CDivB (i j : Int) : Prop := 0 < j ∧ j.natAbs.log2 < 9000
theorem op_fdivB : OpR X (binaryOp .FloorDiv) (rI CDivB fun i j => .int (i / j)) := opI fun i j _ _ _ _ _ hc q => by
  have h1 : (0 : Int) < j := hc.1
  exact floordiv_int (by omega) (by rw [Int.fdiv_eq_ediv_of_nonneg i (by omega)]; exact q) (.inl (PyProof.noPylong_of_log2 hc.2))
/-! ### t + u, any of them empty -/
def rCatE : R2 := fun x y H Q => ∃ a b xs ys, x = .ref a ∧ y = .ref b ∧ H a = some (.tup xs) ∧ H b = some (.tup ys) ∧ xs.length + ys.length ≤ sizeLine ∧
  ∀ p H', Same H H' → H' p = some (.tup (xs ++ ys)) → Q (.ref p) H'
theorem op_catE : OpR X (binaryOp .Add) rCatE := by
  intro pins s σ H x y v u Q I rx ry h
  obtain ⟨a, b, xs, ys, rfl, rfl, ha, hb, hz, q⟩ := h
  by_cases hx : xs = []
  · cases rx
    cases ry
    subst hx
    obtain ⟨its, r1, p1, _⟩ := I.tuple (SqT.of ha)
    obtain ⟨its2, r2, p2, _⟩ := I.tuple (SqT.of hb)
    have e1 : its = [] := r1.nil_iff.mpr rfl
    subst e1
    obtain ⟨⟨cls, dd, data, sl⟩, ho, hc, n, hd⟩ := id p1
    obtain ⟨⟨cls2, dd2, data2, sl2⟩, ho2, hc2, n2, hd2⟩ := id p2
    simp only at hc hd hc2 hd2
    subst hc hd hc2 hd2
    exact concat_meets ⟨_, ho, rfl⟩ ⟨_, ho2, rfl⟩ noFill_tuple_add seq_tuple_add PySem.F.slot_tuple_add PySem.F.entry_tuple_add (PySem.F.args_tuple_add_2 _ _)
      (tuple_addW0 a b _ _ n n2 dd dd2 sl sl2 (by simp)) ⟨ho, ho2, ⟨.ref b, H, I, rfl, q b H (Same.refl H) (by simpa using hb)⟩⟩
  · refine op_catT pins s σ H (.ref a) (.ref b) v u Q I rx ry ⟨a, b, xs, ys, rfl, rfl, SqT.of ha, SqT.of hb, hx, hz, fun e => ?_, fun _ p hp => ?_⟩
    · subst e
      exact q a H (Same.refl H) (by simpa using ha)
    · exact q p _ (Same.new hp _) upd_same
/-! ### xs == [], xs != [] -/
def rEqN (K : PySem.W.Frag) (neg : Bool) : R2 := fun x y H Q => ∃ a b xs, x = .ref a ∧ y = .ref b ∧ SqL K H a xs ∧ SqL K H b [] ∧ Q (.bl (if neg then !xs.isEmpty else xs.isEmpty)) H
theorem op_neN (hu : X.A.units < cLine) : OpR X (compareOp .NotEq) (rEqN X.K true) := by
  intro pins s σ H x y v u Q I rx ry h
  obtain ⟨a, b, xs, rfl, rfl, ha, hb, q⟩ := h
  cases rx
  cases ry
  obtain ⟨its, r1, p1, _⟩ := I.list ha
  obtain ⟨its2, r2, p2, _⟩ := I.list hb
  have e2 : its2 = [] := (Vals.nil_iff r2).mpr rfl
  subst e2
  cases xs with
  | nil =>
    have e1 : its = [] := (Vals.nil_iff r1).mpr rfl
    subst e1
    exact SeqAt.RcNeAt.lists (e := fun _ => true) p1.isList p2.isList rfl hu (fun j h1 _ => absurd h1 (by simp)) _ _ _ _ ⟨.bl false, H, I, rfl, q⟩
  | cons x r =>
    have hl := r1.length
    exact SeqAt.RcNeAt.lists_lengths p1.isList p2.isList (by rw [List.size_toArray, List.size_toArray, ← hl]; simp) hu _ _ _ _ ⟨.bl true, H, I, rfl, q⟩
/-! ### texts -/
def rSlS : V → Option Int → Option Int → Hp → VK → Prop := fun x lo hi H Q => ∃ z, x = .str z ∧ z.length ≤ sizeLine ∧ Q (.str (Txt.slice z lo hi)) H
/-! ### count, index -/
theorem strsAre_of {ys : List Str} : ∀ {us : List Value}, Vals (ys.map V.str) us → StrsAre us ys := by
  induction ys with
  | nil => intro us r; cases r; exact .nil
  | cons y r ih =>
    intro us h
    cases h with
    | cons a b => obtain ⟨t, rfl⟩ := a; exact .cons _ _ (ih b)
end
/-! ### in a block: the text's part by its name (the readings may not speak of the block) -/
theorem ixt {X : Cx} (K : PySem.W.Frag) (h : X.K = K := by rfl) : IxR X (rIxT K) := by
  subst h
  exact ix_tup
/-! ### a def by its name -/
/-- the def x of the text keeps sp, with room k -/
def Cal (P : Program) (w : World) (K : PySem.W.Frag) (mg : Str → Option Value) (base : Heap) (k : Nat) (x : Str) (ps : List Str) (sp : Sp) : Prop :=
  ∃ (f : Addr) (fd : FuncData), FnOk P w K mg base CX0 k f fd ps sp ∧ Binds K fd ps [] ∧ PySem.W.keepIn K (.ref f) = true ∧ mg x = some (.ref f)
theorem pe_cal {X : Cx} {k : Nat} {x : Str} {ps : List Str} {sp : Sp} {p pos : Pos} {e : Expr} {es : List Expr} {t : TA} (c : Cal X.prog X.w X.K X.mg X.base k x ps sp) (hr : Room k X.A) (hg : Gl X x) (ha : PA X (e :: es) t)
    (hdb : (x == ("__debug__" : Str)) = false := by decide) (he : starEach (e :: es) X.env = (false, eval e X.env) :: starEach es X.env := by rfl) (hpl : (backTo pos (starEach es X.env)).any (·.1) = false := by rfl) :
    PE X (.Call (.Name x p) (e :: es) [] pos) (tCall sp [] E0 t) := by
  obtain ⟨f, fd, F, b, kp, m⟩ := c
  exact pe_call F hr hg m kp b .nil pass0 ha hdb he hpl
/-- the def x as it stands behind the top: its statement st, its parameters -/
def Has (K : PySem.W.Frag) (mg : Str → Option Value) (x : Str) (st : Stmt) (ps : List Str) : Prop := ∃ (f : Addr) (fd : FuncData), Fun K x x st f fd ∧ Binds K fd ps [] ∧ mg x = some (.ref f)
theorem Has.cal {P : Program} {w : World} {K : PySem.W.Frag} {mg : Str → Option Value} {base : Heap} {x : Str} {st : Stmt} {N ps : List Str} {k : Nat} {sp : Sp} (h : Has K mg x st ps) (S : FnScope N ps (defScope st)) (len : ∀ vs H Q E, sp vs H Q E → vs.length = ps.length)
    (hbody : ∀ (f : Addr) (cdv : Value) (A : Around) (outer : List Env) (s : Shared) (H : Hp) (vs : List V) (Q : VK) (E : XK), Room k (A.deeper (envOfC x (defScope st) s.heap.objs.size f cdv)) → sp vs H Q E →
      ∃ t, PSs (cxOf CX0 P w K mg base N x (defScope st) f cdv A outer s H E).nox (defBody st) t ∧ t { nx := fun _ H' => Q .non H', rt := Q } (start N vs) H) : Cal P w K mg base (k + 1) x ps sp := by
  obtain ⟨f, fd, F, b, m⟩ := h
  exact ⟨f, fd, F.ok S len fun cdv A outer s H vs Q E hr h => hbody f cdv A outer s H vs Q E hr h, b, F.kp, m⟩
theorem Has.mk {K : PySem.W.Frag} {h : Heap} {mg : Str → Option Value} {x : Str} {st : Stmt} {ps : List Str} {f : Addr} {oc : Value} {od an : Option Addr} {osl : Array (Option Value)} {kV doc pm cdv ct : Value} (X : K.In h) (G : h.Ns mainGlobals mg)
    (a : PySem.W.nsIn K mainGlobals x = some (some (.ref f))) (l : K.lookup f = some ⟨oc, od, .func (PySem.W.fnOf x x (defArgs st) (defBody st) (defScope st) .none kV doc pm an cdv ct), osl⟩) (c : PySem.W.codeIn K cdv x = true) (k : PySem.W.keepIn K (.ref f) = true)
    (hb : ∀ (kV doc pm : Value) (an : Option Addr) (cdv ct : Value) (us : List Value), us.length = ps.length → bindArgs (PySem.W.fnOf x x (defArgs st) (defBody st) (defScope st) .none kV doc pm an cdv ct) ⟨us, []⟩ = pure (ps.zip us)) : Has K mg x st ps :=
  ⟨f, _, fun_mk (st := st) l c k, (fun_mk (st := st) l c k).binds hb, PySem.W.mg_of X G a⟩
end L2

/-! RULES FOR PAIRS over the hand layer (own work): zip(xs, t) of a list and a tuple, dict(ps) of a list of pairs -/
namespace L2
open PySem PySem.Spec PyProof.Rows
/-! ### the next of a tuple's iterator, raised -/
section
variable {prog : Program} {w : World} {A : Around} {E : Value → Shared → Prop} {s : Shared}
/-! ### zip of a list and a tuple: one turn -/
/-! ### zip made -/
abbrev zp1 (h : Heap) (a : Addr) : Heap := h.push { cls := .type "list_iterator", data := .fields #[.ref a, .int 0 0] }
abbrev zp2 (h : Heap) (a b : Addr) : Heap := (zp1 h a).push { cls := .type "tuple_iterator", data := .fields #[.ref b, .int 0 0] }
abbrev zp3 (h : Heap) (a b : Addr) : Heap := (zp2 h a b).push { cls := .type "tuple", data := .seq #[.ref h.objs.size, .ref (zp1 h a).objs.size] }
abbrev zp4 (h : Heap) (a b : Addr) : Heap := (zp3 h a b).push { cls := .type "tuple", data := .seq #[.none, .none] }
abbrev zp5 (h : Heap) (a b : Addr) : Heap := (zp4 h a b).push { cls := .type "zip", data := .fields #[.none, .bool false, .bool false, .ref (zp2 h a b).objs.size, .ref (zp3 h a b).objs.size] }
end
/-! ### records of ours have turned -/
theorem Inv.turnedL {X : Cx} {pins : List (Addr × Obj)} {σ : St} {H : Hp} {s : Shared} {h' : Heap} {t' : Nat} {fp : List Addr} (I : Inv X pins σ H s) (k : ∀ b o, b ∉ fp → s.heap.get? b = some o → h'.get? b = some o) (hf : ∀ b ∈ fp, FpOk X pins H b) : Inv X pins σ H { s with heap := h', toks := t' } := by
  have nit : ∀ b u, H b = some u → b ∉ fp := fun b u e z => by rw [(hf b z).1] at e; cases e
  refine I.step (g' := s.gens) (d' := s.drawn) (ch := fp) (fun b hb => ⟨(hf b hb).2.2.2.1, (hf b hb).2.1, (hf b hb).2.2.2.2.1, (hf b hb).2.2.2.2.2⟩) (fun b o _ _ hc e _ => k b o hc e) (fun b o _ _ hc e _ => ⟨o.slots, k b o hc e⟩) (fun _ _ _ _ n => n)
    (fun b o hc e => ⟨o, k b o hc e⟩) (fun _ _ e => e) (fun _ _ _ e => e) (fun b ps e => ⟨#[], by rw [e]; simp⟩) (fun m ⟨o, es, ep, ho, r⟩ => ⟨o, es, ep, k _ o (fun z => (hf _ z).2.1 rfl) ho, r⟩) (fun b u e => ?_) I.bare
  refine (I.hok b u e).stay (fun c v hc q => k c v ?_ q) (fun _ q => q) fun _ _ q => q
  rcases hc with z | z
  · rw [z]; exact nit b u e
  · exact nit c _ z
/-! ### for .., .. in zip(xs, t) -/
def Itz (K : PySem.W.Frag) (a b : Addr) : It :=
  ⟨fun i H => ∃ xs ys x y, SqL K H a xs ∧ SqT K H b ys ∧ xs[i]? = some x ∧ ys[i]? = some y, fun i H v H' => ∃ T x y, v = .ref T ∧ H T = none ∧ H' = upd H T (.tup [x, y]) ∧ (∀ xs, SqL K H a xs → xs[i]? = some x) ∧ ∀ ys, SqT K H b ys → ys[i]? = some y,
    fun i H => ∃ xs, SqL K H a xs ∧ xs.length ≤ i⟩
structure ZSt (z TI TO i1 i2 a b : Addr) (i : Nat) (h : Heap) : Prop where
  z : IsZip h z TI TO .none
  ti : IsPair h TI (.ref i1) (.ref i2)
  tx : ∃ u v, IsPair h TO u v
  ia : h.IsListIter i1 a i
  ib : h.IsTupleIter i2 b i
def iZip (K : PySem.W.Frag) (ta : TA) : TI := fun σ H R => ta σ H fun vs H1 => ∃ a b, vs = [.ref a, .ref b] ∧ (∃ xs, SqL K H1 a xs) ∧ (∃ ys, SqT K H1 b ys) ∧ R (Itz K a b) H1
section
variable {K : PySem.W.Frag} {a b D : Addr} {xs ys : List V} {g : TG} {tt : TT} {te : TE} {σ0 : St} {H0 : Hp} {Q : VK}
end
/-! ### dict(ps), ps a list of pairs -/
section
variable {prog : Program} {w : World} {A : Around} {E : Value → Shared → Prop} {s : Shared} {KT : Type} [DecidableEq KT] {knd : KeyKind prog w KT}
/-- the pairs as they stand -/
def PairsAt (knd : KeyKind prog w KT) (h : Heap) (its : Array Value) (kvs : List (KT × Value)) : Prop :=
  its.size = kvs.length ∧ ∀ (i : Nat) (v : Value), its[i]? = some v → ∃ (p : Addr) (key val : Value) (k : KT), v = .ref p ∧ h.IsTuple p #[key, val] ∧ kvs[i]? = some (k, val) ∧ knd.is k key = true
end
/-- .., .. = t in a block: the text's part by its name -/
theorem pgt {X : Cx} (K : PySem.W.Frag) {es : List Expr} {k : Nat} {pos : Pos} {t : TGs} (n : Nat) (hc : X.calm = true) (h : PGs X es t) (hK : X.K = K := by rfl)
    (hn : (assignEach es X.env).length = n := by rfl) (hst : (assignEach es X.env).findIdx? (·.1) = none := by rfl) : PG X (.Tuple es k pos) (gTup K n t) := by
  subst hK
  exact pg_tup hc h hn hst
end L2

/-! COMMON THINGS of the laws about sayings (own work): what stays, divisors, kinds, cuts, items -/
namespace L2
open PySem PySem.Spec PyProof.Rows
/-- all that was tracked but r is as it was -/
def But (r : Addr) (H H' : Hp) : Prop := ∀ b o, b ≠ r → H b = some o → H' b = some o
theorem But.trans {r : Addr} {H H1 H2 : Hp} (a : But r H H1) (b : But r H1 H2) : But r H H2 := fun c o n h => b c o n (a c o n h)
theorem But.of {r : Addr} {H H' : Hp} (a : Same H H') : But r H H' := fun c o _ h => a c o h
theorem But.upd {r : Addr} {H : Hp} (o : HO) : But r H (upd H r o) := fun c u n h => by rw [upd_ne n]; exact h
theorem But.new {r p : Addr} {H : Hp} (h : H p = none) (o : HO) : But r H (L2.upd H p o) := .of (Same.new h o)
/-- a divisor that is short enough -/
def Few (many : Int) : Prop := 0 < many ∧ many.natAbs.log2 < 9000
theorem few_of {m : Int} (h : 0 < m) (h2 : m < 1073741824) : Few m := ⟨h, by
  have : m.natAbs ≠ 0 := by omega
  have h30 : m.natAbs.log2 < 30 := (Nat.log2_lt this).mpr (by omega)
  omega⟩
theorem cm {a b : Int} (h : 0 ≤ a) (h2 : a < 10000000000) : CMul a b := .inl ⟨by omega, by omega⟩
theorem cmr {a b : Int} (h : 0 ≤ b) (h2 : b < 10000000000) : CMul a b := .inr ⟨by omega, by omega⟩
theorem p1018 : CPow 10 18 := ⟨by decide, by decide, by decide⟩
theorem small {n : Nat} (h : n ≤ 1000) : n ≤ sizeLine := Nat.le_of_lt (small1000 h)
theorem sz {n : Nat} (h : n ≤ 8388608) : n < sizeLine := Nat.lt_of_le_of_lt h (by decide)
theorem sz' {n : Nat} (h : n ≤ 8388608) : n ≤ sizeLine := Nat.le_of_lt (sz h)
theorem at0 {v : V} {xs : List V} : atI (v :: xs) 0 = some v := atI_nat (j := 0) rfl
theorem kit_same (K : PySem.W.Frag) (T : String) : PySem.W.kitOne K (.type T) (.type T) = some true := by
  unfold PySem.W.kitOne
  rw [if_pos (by simp)]
theorem kit_ib (K : PySem.W.Frag) : PySem.W.kitOne K (.type "int") (.type "bool") = some false := by with_unfolding_all rfl
theorem seq_cut {t R : TS} {D : Ends} {σ : St} {H : Hp} (J : St → Hp → Prop) (h : ∀ R' : St → Hp → Prop, (∀ σ' H', J σ' H' → R' σ' H') → t { D with nx := R' } σ H) (hR : ∀ σ' H', J σ' H' → R D σ' H') : tSeq t R D σ H := h (R D) hR
theorem gset {i : Nat} {v : V} {σ : St} {H : Hp} {t R : TS} {D : Ends} {rt : VK} {bk ct : St → Hp → Prop} (h : tSeq t R D (σ.set i (some v)) H) : gName i v σ H (Ends.nx ⟨tSeq t R D, rt, bk, ct⟩) := h
theorem But.none {r p : Addr} {H H' : Hp} (b : But r H H') (hr : p ≠ r) (h : H' p = none) : H p = none := by
  cases e : H p with
  | none => rfl
  | some o => rw [b p o hr e] at h; cases h
/-- a thing of its own was put -/
theorem But.put {r p : Addr} {H H' : Hp} {o : HO} (b : But r H H') (h : H p = .none) : But r H (L2.upd H' p o) := fun c u n e => by
  rw [upd_ne (ne_of_none e h)]
  exact b c u n e
/-- lists alike, item by item -/
def All2 {α β : Type} (R : α → β → Prop) (xs : List α) (ys : List β) : Prop := xs.length = ys.length ∧ ∀ (i : Nat) x y, xs[i]? = some x → ys[i]? = some y → R x y
theorem All2.nil {α β : Type} {R : α → β → Prop} : All2 R [] [] := ⟨rfl, fun i x y h => by simp at h⟩
theorem All2.mono {α β : Type} {R S : α → β → Prop} {xs : List α} {ys : List β} (h : All2 R xs ys) (f : ∀ x y, R x y → S x y) : All2 S xs ys := ⟨h.1, fun i x y a b => f x y (h.2 i x y a b)⟩
theorem All2.snoc {α β : Type} {R : α → β → Prop} {xs : List α} {ys : List β} {x : α} {y : β} (h : All2 R xs ys) (r : R x y) : All2 R (xs ++ [x]) (ys ++ [y]) := by
  have hl := h.1
  refine ⟨by simp [hl], fun i a b ha hb => ?_⟩
  by_cases hi : i < xs.length
  · rw [List.getElem?_append_left hi] at ha
    rw [List.getElem?_append_left (by omega)] at hb
    exact h.2 i a b ha hb
  · rw [List.getElem?_append_right (by omega)] at ha
    rw [List.getElem?_append_right (by omega)] at hb
    have hl2 := (List.getElem?_eq_some_iff.mp ha).1
    have e : i - xs.length = 0 := by simp at hl2; omega
    rw [e] at ha
    rw [show i - ys.length = 0 by omega] at hb
    cases ha
    cases hb
    exact r
theorem All2.at {α β : Type} {R : α → β → Prop} {xs : List α} {ys : List β} (h : All2 R xs ys) {i : Nat} {x : α} (e : xs[i]? = some x) : ∃ y, ys[i]? = some y ∧ R x y := by
  have hi : i < ys.length := by rw [← h.1]; exact (List.getElem?_eq_some_iff.mp e).1
  exact ⟨ys[i], List.getElem?_eq_getElem hi, h.2 i x _ e (List.getElem?_eq_getElem hi)⟩
/-- a global tuple -/
def GT (K : PySem.W.Frag) (mg : Str → Option Value) (x : Str) (xs : List V) : Prop := ∃ a, mg x = some (.ref a) ∧ ∀ H : Hp, SqT K H a xs
def GI (mg : Str → Option Value) (x : Str) (n : Int) : Prop := ∃ t, mg x = some (.int n t)
end L2

/-! MORE RULES over the hand layer (own work): xs.insert(k, y), xs[::-1], all(bools), for k, x in enumerate(xs) -/
namespace L2
open PySem PySem.Spec PyProof.Rows
section
variable {X : Cx}
/-! ### insert -/
def rInsert : V → List V → Hp → VK → Prop := fun x vs H Q => ∃ (l : Addr) (xs : List V) (k : Int) (y : V), x = .ref l ∧ vs = [.int k, y] ∧ H l = some (.lst xs) ∧ 0 ≤ k ∧ k ≤ (xs.length : Int) ∧ xs.length < 8388608 ∧ Q .non (upd H l (.lst (xs.take k.toNat ++ y :: xs.drop k.toNat)))
/-! ### xs[::-1] -/
def tRevL (K : PySem.W.Frag) (te ts : TE) : TE := fun σ H Q => te σ H fun x H1 => ts σ H1 fun y H2 => y = .int (-1) ∧ ∃ a xs, x = .ref a ∧ SqL K H2 a xs ∧ ∀ p, H2 p = none → Q (.ref p) (upd H2 p (.lst xs.reverse))
theorem pe_rev {e st : Expr} {te ts : TE} {p2 pos : Pos} (he : PE X e te) (hs : PE X st ts) : PE X (.Subscript e (.Slice none none (some st) p2) pos) (tRevL X.K te ts) := by
  intro pins s σ H Q I h
  refine Subscript_ (thn (he pins s σ H _ I h) fun v s1 ⟨x, H1, I1, r1, q1⟩ => ?_)
  refine wpAny_Slice ?_
  rw [evalPart_none]
  refine wpAny_pure ?_
  refine wpAny_pure ?_
  show wpAny _ _ (eval st X.env) _ _ _
  refine thn (hs pins s1 σ H1 _ I1 q1) fun vs s3 ⟨y, H3, I3, ry, ey, a, xs, ex, hx, q3⟩ => ?_
  subst ey ex
  obtain ⟨t, rfl⟩ := ry
  cases r1
  have I4 : Inv X pins σ H3 { s3 with heap := s3.heap.push { cls := .type "slice", data := .fields #[.none, .none, .int (-1) t] } } := I3.kept (t' := s3.toks) fun b ob q => Heap.get?_push_of_some _ q
  obtain ⟨its, r, ht, hz⟩ := I4.list hx
  refine tail_any (T := "list") (ops := [.ref a, .ref s3.heap.objs.size]) ht.isList.typeIs slot_list_getitem.lookup ?_ (by with_unfolding_all rfl)
  refine wpAny_getItem_list_slice ht.isList (Heap.IsSliceOf.new ..) .none .none (.int (-1) t) (by simp) ?_ (by rw [List.size_toArray, ← r.length]; exact hz)
  rw [PySem.W.krv_pick]
  refine ⟨.ref _, _, I4.laid (t' := s3.toks) (o := .lst xs.reverse) (fun b ob q => Heap.get?_push_of_some _ q) (Nat.le_refl _) ?_, rfl, q3 _ (I4.hok.fresh (Nat.le_refl _))⟩
  exact ⟨by rw [List.length_reverse]; exact hz, its.reverse, 0, r.reverse, by rw [List.toList_toArray]; exact Heap.get?_push_size _ rfl⟩
/-! ### all(bools) -/
end
/-! ### for k, x in enumerate(xs) -/
def Ite (a : Addr) : It :=
  ⟨fun i H => ∃ xs x, H a = some (.lst xs) ∧ xs[i]? = some x, fun i H v H' => ∃ T x, v = .ref T ∧ H T = none ∧ H' = upd H T (.tup [.int (i : Nat), x]) ∧ ∀ xs, H a = some (.lst xs) → xs[i]? = some x,
    fun i H => ∃ xs, H a = some (.lst xs) ∧ xs.length ≤ i⟩
def EnSt (e it a : Addr) (i : Nat) (h : Heap) : Prop := (∃ old, IsEnum h e it (i : Nat) old) ∧ h.IsListIter it a i
theorem turn_enum {P : Program} {w : World} {K : PySem.W.Frag} {es : List Expr} {kt : Nat} {tp : Pos} {e it a : Addr} (hne : e ≠ it) : Turn P w K (.Tuple es kt tp) (Ite a) [e, it] e (EnSt e it a) where
  mem := by simp
  obj := fun i h st c hc => by
    obtain ⟨⟨old, h1⟩, ⟨o4, h4, _, d4⟩⟩ := st
    simp only [List.mem_cons, List.not_mem_nil, or_false] at hc
    rcases hc with rfl | rfl
    · exact ⟨_, h1, fun v z => by cases z⟩
    · exact ⟨_, h4, fun v z => by rw [d4] at z; cases z⟩
  keep := fun i h h' st k => by
    obtain ⟨⟨old, h1⟩, ⟨o4, h4, r4⟩⟩ := st
    exact ⟨⟨old, k _ (by simp) _ h1⟩, ⟨o4, k _ (by simp) _ h4, r4⟩⟩
  item := by
    intro X hP hw hK hc i pins s σ H E I hf st hg
    subst hP hw hK
    obtain ⟨xs, x, hx, ex⟩ := hg
    obtain ⟨⟨old, h1⟩, h4⟩ := st
    obtain ⟨its, rv, p, _⟩ := I.list (SqL.of hx)
    obtain ⟨u, hu, ru⟩ := rv.get ex
    refine wpAny_pyNext_enum_item h1 h4 p.isList (x := u) (by simpa using hu) hne fun h' a1 a2 a3 a4 hk => ?_
    refine ⟨_, rfl, wpAny_letOwnedTupleGo_enum a1 fun h2' b1 hs => ?_⟩
    have hT : H s.heap.objs.size = none := I.hok.fresh (Nat.le_refl _)
    have I1 : Inv X pins σ (upd H s.heap.objs.size (.tup [.int (i : Nat), x])) { s with heap := s.heap.push { cls := .type "tuple", data := .seq #[.int i s.toks, u] } } :=
      I.laid (t' := s.toks) (fun c o e => Heap.get?_push_of_some _ e) (Nat.le_refl _) (show ObjOk X.prog X.w _ _ _ (.tup [.int (i : Nat), x]) from ⟨(by show 2 ≤ sizeLine; decide), [.int i s.toks, u], .cons ⟨_, rfl⟩ (.cons ru .nil), _, Heap.get?_push_size _ rfl, rfl, _, rfl⟩)
    have lt : ∀ c ∈ [e, it], c < s.heap.objs.size := fun c hc => by
      obtain ⟨o4, e4, _⟩ := h4
      simp only [List.mem_cons, List.not_mem_nil, or_false] at hc
      rcases hc with rfl | rfl
      · exact Heap.lt_size h1
      · exact Heap.lt_size e4
    have hf1 : ∀ c ∈ [e, it], FpOk X pins (upd H s.heap.objs.size (.tup [.int (i : Nat), x])) c := fun c hc => ⟨by rw [upd_ne (Nat.ne_of_lt (lt c hc))]; exact (hf c hc).1, (hf c hc).2⟩
    have kk : ∀ c o, c ∉ [e, it] → (s.heap.push { cls := .type "tuple", data := .seq #[.int i s.toks, u] }).get? c = some o → h2'.get? c = some o := fun c o nc eo => by
      simp only [List.mem_cons, List.not_mem_nil, or_false, not_or] at nc
      obtain ⟨n1, n2⟩ := nc
      rcases Heap.get?_push_cases eo with ⟨rfl, rfl⟩ | e'
      · exact (hs.2 _ n1).trans a3
      · exact (hs.2 _ n1).trans (hk c o n1 n2 e')
    have I2 := I1.turnedL (t' := s.toks + 1) (h' := h2') kk hf1
    refine ⟨.ref s.heap.objs.size, _, I2, rfl, ⟨_, x, rfl, hT, rfl, fun zs hz => ?_⟩, ⟨⟨u, ?_⟩, a2.extBut hs.extBut hne.symm⟩, fun c hc => (hf1 c hc).1⟩
    · rw [hx] at hz
      cases hz
      exact ex
    · simpa using b1
  done := by
    intro X hP hw hK hc i pins s σ H E I hf st hg
    subst hP hw hK
    obtain ⟨xs, hq, hx⟩ := hg
    obtain ⟨⟨old, h1⟩, h4⟩ := st
    obtain ⟨its, rv, p, hz⟩ := I.list (SqL.of hq)
    have hl := rv.length
    refine wpAny_pyNext_enum_end (I.ok.hd hc) h1 h4 p.isList (by simp; omega) fun h' hk => ⟨rfl, I.turnedL (t' := s.toks) (fp := [e, it]) (fun c o nc eo => ?_) hf⟩
    simp only [List.mem_cons, List.not_mem_nil, or_false, not_or] at nc
    exact hk c o nc.2 eo
  self := fun _ _ _ _ _ st h => by
    obtain ⟨⟨old, h1⟩, _⟩ := st
    exact wpAny_pyIter_enum h1 h
def iEnum (ta : TA) : TI := fun σ H R => ta σ H fun vs H1 => ∃ a, vs = [.ref a] ∧ (∃ xs, H1 a = some (.lst xs)) ∧ R (Ite a) H1
theorem bt_enum : bootBuiltins "enumerate" = some (.type "enumerate") := by decide +kernel
theorem pi_enum {X : Cx} {es : List Expr} {kt : Nat} {tp : Pos} {a : Expr} {ta : TA} {p pos : Pos} (hg : Gl X "enumerate") (hm : X.mg "enumerate" = none) (ha : PA X [a] ta) (hs : starEach [a] X.env = [(false, eval a X.env)] := by rfl) :
    PI X (.Tuple es kt tp) (.Call (.Name "enumerate" p) [a] [] pos) (iEnum ta) := by
  intro pins s σ H R I h
  refine Call_ (ld_blt I hg hm bt_enum (PyProof.Rows.callWith_type1 (thn (ha pos pins s σ H _ I h) fun us s1 ⟨vs, H1, I1, r1, q1⟩ => ?_) (by rw [hs]; rfl) (by rfl)))
  obtain ⟨x, e, ⟨xs, hx⟩, q⟩ := q1
  subst e
  obtain ⟨u, rfl, ru⟩ := vals1 r1
  cases ru
  obtain ⟨z, its, n, r, hl, e⟩ := I1.lstM hx
  refine call_enumerate_1 e fun h' g1 g2 gz hk => ?_
  refine wpAny_pyIter_enum g1 ?_
  refine ⟨s1.heap.objs.size + 1, [s1.heap.objs.size + 1, s1.heap.objs.size], _, _, H1, rfl, I1.kept (t' := s1.toks) hk, turn_enum (Nat.succ_ne_self _), ⟨⟨_, by simpa using g1⟩, g2⟩, fun c hc => ?_, q⟩
  have hle : s1.heap.objs.size ≤ c := by
    simp only [List.mem_cons, List.not_mem_nil, or_false] at hc
    rcases hc with e | e <;> rw [e]
    · exact Nat.le_add_right _ 1
    · exact Nat.le_refl _
  exact I1.fpOk hle (I1.hok.fresh hle)
theorem for_enum {a : Addr} {xs : List V} {g : TG} {tb : TS} {D : Ends} {σ : St} {H : Hp} (Pv : Nat → St → Hp → Prop) (h0 : Pv 0 σ H) (hl : ∀ i σ H, i ≤ xs.length → Pv i σ H → H a = some (.lst xs))
    (hs : ∀ i x σ H T, xs[i]? = some x → Pv i σ H → H T = none → g (.ref T) σ (upd H T (.tup [.int (i : Nat), x])) fun σ2 H2 => tb { D with nx := Pv (i + 1), ct := Pv (i + 1), bk := D.nx } σ2 H2) (hd : ∀ σ H, Pv xs.length σ H → D.nx σ H) :
    ∃ W : Nat → Nat → St → Hp → Prop, (∃ m, W 0 m σ H) ∧ ∀ i m σ H, W i m σ H →
      ((Ite a).stop i H ∧ D.nx σ H) ∨ ((Ite a).go i H ∧ ∃ N : St → Hp → Prop, (∀ σ' H', N σ' H' → ∃ m', m' < m ∧ W (i + 1) m' σ' H') ∧ ∀ x H', (Ite a).yld i H x H' → g x σ H' fun σ2 H2 => tb { D with nx := N, ct := N, bk := D.nx } σ2 H2) := by
  refine ⟨fun i m σ H => m = xs.length - i ∧ i ≤ xs.length ∧ Pv i σ H, ⟨xs.length, by simp, Nat.zero_le _, h0⟩, ?_⟩
  rintro i m σ H ⟨rfl, hi, p⟩
  have q := hl i σ H hi p
  by_cases hlt : i < xs.length
  · refine .inr ⟨⟨xs, xs[i], q, by simp [hlt]⟩, Pv (i + 1), fun σ' H' p' => ⟨xs.length - (i + 1), by omega, rfl, hlt, p'⟩, fun x H' y => ?_⟩
    obtain ⟨T, z, rfl, hT, rfl, y⟩ := y
    exact hs i z σ H T (y xs q) p hT
  · have e : i = xs.length := by omega
    subst e
    exact .inl ⟨⟨xs, q, Nat.le_refl _⟩, hd σ H p⟩
end L2

/-! == and != of tuples and lists over the hand layer (own work): things alike, down to what is the very same -/
namespace L2
open PySem PySem.Spec PyProof.Rows
/-- alike: the same, or tuples or lists of things alike -/
def Alk (H : Hp) : Nat → V → V → Prop
  | 0, _, _ => False
  | n + 1, x, y => (x = y ∧ (flatV x = true ∨ ∃ a, x = .ref a)) ∨
      ∃ a b xs ys, x = .ref a ∧ y = .ref b ∧ ((H a = some (.tup xs) ∧ H b = some (.tup ys)) ∨ (H a = some (.lst xs) ∧ H b = some (.lst ys))) ∧ xs.length = ys.length ∧ ys.length ≤ 8388608 ∧
        ∀ (i : Nat) (x y : V), xs[i]? = some x → ys[i]? = some y → Alk H n x y
theorem eqV_self {x : V} (h : flatV x = true) : eqV x x = true := by
  cases x <;> first | rfl | (cases h; done) | simp [eqV]
def Pl (x : V) : Prop := flatV x = true ∨ ∃ a, x = .ref a
theorem Alk.rfl' {H : Hp} (n : Nat) {x : V} (h : Pl x) : Alk H (n + 1) x x := .inl ⟨rfl, h⟩
theorem alk_tup {H : Hp} {n : Nat} {a b : Addr} {xs ys : List V} (h1 : H a = some (.tup xs)) (h2 : H b = some (.tup ys)) (hl : xs.length = ys.length) (hz : ys.length ≤ 8388608) (h : ∀ (i : Nat) (x y : V), xs[i]? = some x → ys[i]? = some y → Alk H n x y) : Alk H (n + 1) (.ref a) (.ref b) :=
  .inr ⟨a, b, xs, ys, rfl, rfl, .inl ⟨h1, h2⟩, hl, hz, h⟩
theorem alk_lst {H : Hp} {n : Nat} {a b : Addr} {xs ys : List V} (h1 : H a = some (.lst xs)) (h2 : H b = some (.lst ys)) (hl : xs.length = ys.length) (hz : ys.length ≤ 8388608) (h : ∀ (i : Nat) (x y : V), xs[i]? = some x → ys[i]? = some y → Alk H n x y) : Alk H (n + 1) (.ref a) (.ref b) :=
  .inr ⟨a, b, xs, ys, rfl, rfl, .inr ⟨h1, h2⟩, hl, hz, h⟩
/-- lists of the very same things -/
theorem alk_same {H : Hp} {a b : Addr} {xs : List V} (n : Nat) (h1 : H a = some (.lst xs)) (h2 : H b = some (.lst xs)) (hz : xs.length ≤ 8388608) (h : ∀ x ∈ xs, Pl x) : Alk H (n + 2) (.ref a) (.ref b) :=
  alk_lst h1 h2 rfl hz fun i x y e1 e2 => by
    rw [e1] at e2
    cases e2
    exact Alk.rfl' n (h x (List.mem_of_getElem? e1))
theorem alk_pair {H : Hp} {n : Nat} {a b : Addr} {x y x' y' : V} (h1 : H a = some (.tup [x, y])) (h2 : H b = some (.tup [x', y'])) (hx : Alk H n x x') (hy : Alk H n y y') : Alk H (n + 1) (.ref a) (.ref b) :=
  alk_tup h1 h2 rfl (by show 2 ≤ 8388608; decide) fun i u v e1 e2 => by
    rcases i with _ | _ | i
    · cases e1; cases e2; exact hx
    · cases e1; cases e2; exact hy
    · simp at e1
theorem all_rangeT {n : Nat} {e : Nat → Bool} (h : ∀ j, j < n → e j = true) : (List.range n).all e = true := List.all_eq_true.mpr fun j hj => h j (List.mem_range.mp hj)
section
variable {X : Cx} {pins : List (Addr × Obj)} {σ : St} {H : Hp} {s : Shared}
theorem tup_at (I : Inv X pins σ H s) {a : Addr} {xs : List V} (h : H a = some (.tup xs)) : ∃ its : List Value, Vals xs its ∧ s.heap.IsTuple a its.toArray := by
  obtain ⟨its, r, pl, hz⟩ := I.tuple (SqT.of (K := X.K) h)
  exact ⟨its, r, pl⟩
theorem lst_at (I : Inv X pins σ H s) {a : Addr} {xs : List V} (h : H a = some (.lst xs)) : ∃ its : List Value, Vals xs its ∧ s.heap.IsList a its.toArray := by
  obtain ⟨its, r, pl, hz⟩ := I.list (SqL.of (K := X.K) h)
  exact ⟨its, r, pl.isList⟩
/-- the items, place by place -/
theorem items_at {xs ys : List V} {us ws : List Value} {A : Around} {R : V → V → Bool → Prop} (ru : Vals xs us) (rw' : Vals ys ws) {e : Nat → Bool} (h : ∀ (i : Nat) (x y : V) (u w : Value), xs[i]? = some x → ys[i]? = some y → RelV x u → RelV y w → SeqAt.EqAt A s u w (e i)) :
    ∀ j (h1 : j < us.toArray.size) (h2 : j < ws.toArray.size), SeqAt.EqAt A s us.toArray[j] ws.toArray[j] (e j) := fun j h1 h2 => by
  have l1 := ru.length
  have l2 := rw'.length
  have hj1 : j < xs.length := by simp at h1; omega
  have hj2 : j < ys.length := by simp at h2; omega
  obtain ⟨u, eu, r1⟩ := ru.get (i := j) (x := xs[j]) (List.getElem?_eq_getElem hj1)
  obtain ⟨w, ew, r2⟩ := rw'.get (i := j) (x := ys[j]) (List.getElem?_eq_getElem hj2)
  have e1 : us.toArray[j] = u := by
    have : us[j]? = some u := eu
    simp only [List.getElem_toArray]
    exact Option.some.inj ((List.getElem?_eq_getElem (by simpa using h1)).symm.trans this)
  have e2 : ws.toArray[j] = w := by
    have : ws[j]? = some w := ew
    simp only [List.getElem_toArray]
    exact Option.some.inj ((List.getElem?_eq_getElem (by simpa using h2)).symm.trans this)
  rw [e1, e2]
  exact h j _ _ u w (List.getElem?_eq_getElem hj1) (List.getElem?_eq_getElem hj2) r1 r2
theorem eqAt_alike (I : Inv X pins σ H s) : ∀ (n : Nat) (A : Around) (x y : V) (v u : Value), A.units + n < cLine → Alk H n x y → RelV x v → RelV y u → SeqAt.EqAt A s v u true
  | 0, _, _, _, _, _, _, h, _, _ => h.elim
  | n + 1, A, x, y, v, u, hu, h, rx, ry => by
    rcases h with ⟨rfl, hp⟩ | ⟨a, b, xs, ys, rfl, rfl, hab, hl, hz, hall⟩
    · rcases hp with hp | ⟨a, rfl⟩
      · have := eqAt_V (A := A) (s := s) rx ry hp hp
        rwa [eqV_self hp] at this
      · cases rx
        cases ry
        exact SeqAt.EqAt.same _
    · cases rx
      cases ry
      by_cases eab : a = b
      · subst eab
        exact SeqAt.EqAt.same _
      refine SeqAt.EqAt.of_refs eab ?_
      have hu1 : A.in1.units + n < cLine := by
        have : A.in1.units = A.units + 1 := rfl
        omega
      rcases hab with ⟨h1, h2⟩ | ⟨h1, h2⟩
      · obtain ⟨us, ru, pu⟩ := tup_at I h1
        obtain ⟨ws, rw', pw⟩ := tup_at I h2
        have l1 := ru.length
        have l2 := rw'.length
        have := SeqAt.RcAt.tuples (e := fun _ => true) pu pw (by omega) (items_at (R := fun _ _ _ => True) ru rw' fun i x y u w e1 e2 r1 r2 => eqAt_alike I n A.in1 x y u w hu1 (hall i x y e1 e2) r1 r2)
        rwa [show ((List.range (min us.toArray.size ws.toArray.size)).all (fun _ => true) && us.toArray.size == ws.toArray.size) = true from by
          rw [all_rangeT (fun _ _ => rfl), Bool.true_and]
          simp only [List.size_toArray, beq_iff_eq]
          omega] at this
      · obtain ⟨us, ru, pu⟩ := lst_at I h1
        obtain ⟨ws, rw', pw⟩ := lst_at I h2
        have l1 := ru.length
        have l2 := rw'.length
        have := SeqAt.RcAt.lists (e := fun _ => true) pu pw (by simp only [List.size_toArray]; omega) (by omega) (items_at (R := fun _ _ _ => True) ru rw' fun i x y u w e1 e2 r1 r2 => eqAt_alike I n A.in1 x y u w hu1 (hall i x y e1 e2) r1 r2)
        rwa [show (List.range us.toArray.size).all (fun _ => true) = true from all_rangeT (fun _ _ => rfl)] at this
end
section
variable {X : Cx}
/-- two tuples of flat things -/
def eqL (xs ys : List V) : Bool := (List.range (min xs.length ys.length)).all (fun j => eqV (xs.getD j .non) (ys.getD j .non)) && xs.length == ys.length
end
end L2

/-! MORE RULES over the hand layer (own work): == of things alike -/
namespace L2
open PySem PySem.Spec PyProof.Rows
variable {X : Cx}
/-- x == y where both are alike -/
theorem op_eqA (hu : X.A.units + 64 < cLine) : OpR X (compareOp .Eq) (fun x y H Q => ∃ (n : Nat) (a b : Addr), n ≤ 50 ∧ x = .ref a ∧ y = .ref b ∧ ((∃ zs, H a = some (.tup zs)) ∨ ∃ zs, H a = some (.lst zs)) ∧ Alk H n x y ∧ Q (.bl true) H) := by
  intro pins s σ H x y v u Q I rx ry h
  obtain ⟨n, a, b, hn, rfl, rfl, hk, al, q⟩ := h
  cases rx
  cases ry
  cases n with
  | zero => exact al.elim
  | succ n =>
    have hu1 : X.A.in1.units + n < cLine := by
      have : X.A.in1.units = X.A.units + 1 := rfl
      omega
    rcases al with ⟨h1, hp⟩ | ⟨a', b', xs, ys, e1, e2, hab, hl, hz, hall⟩
    · cases h1
      rcases hk with ⟨zs, hz⟩ | ⟨zs, hz⟩
      · obtain ⟨us, ru, pu⟩ := tup_at I hz
        refine SeqAt.RcAt.tuples (e := fun _ => true) pu pu (by omega) (fun j h1 h2 => SeqAt.EqAt.same _) _ _ _ _ ?_
        rw [show ((List.range (min us.toArray.size us.toArray.size)).all (fun _ => true) && us.toArray.size == us.toArray.size) = true from by
          rw [all_rangeT (fun _ _ => rfl), Bool.true_and]
          exact beq_self_eq_true _]
        exact ⟨.bl true, H, I, rfl, q⟩
      · obtain ⟨us, ru, pu⟩ := lst_at I hz
        refine SeqAt.RcAt.lists (e := fun _ => true) pu pu rfl (by omega) (fun j h1 h2 => SeqAt.EqAt.same _) _ _ _ _ ?_
        rw [show (List.range us.toArray.size).all (fun _ => true) = true from all_rangeT (fun _ _ => rfl)]
        exact ⟨.bl true, H, I, rfl, q⟩
    cases e1
    cases e2
    rcases hab with ⟨h1, h2⟩ | ⟨h1, h2⟩
    · obtain ⟨us, ru, pu⟩ := tup_at I h1
      obtain ⟨ws, rw', pw⟩ := tup_at I h2
      have l1 := ru.length
      have l2 := rw'.length
      refine SeqAt.RcAt.tuples (e := fun _ => true) pu pw (by omega) (items_at (R := fun _ _ _ => True) ru rw' fun i x y u w e1 e2 r1 r2 => eqAt_alike I n X.A.in1 x y u w hu1 (hall i x y e1 e2) r1 r2) _ _ _ _ ?_
      rw [show ((List.range (min us.toArray.size ws.toArray.size)).all (fun _ => true) && us.toArray.size == ws.toArray.size) = true from by
          rw [all_rangeT (fun _ _ => rfl), Bool.true_and]
          simp only [List.size_toArray, beq_iff_eq]
          omega]
      exact ⟨.bl true, H, I, rfl, q⟩
    · obtain ⟨us, ru, pu⟩ := lst_at I h1
      obtain ⟨ws, rw', pw⟩ := lst_at I h2
      have l1 := ru.length
      have l2 := rw'.length
      refine SeqAt.RcAt.lists (e := fun _ => true) pu pw (by simp only [List.size_toArray]; omega) (by omega) (items_at (R := fun _ _ _ => True) ru rw' fun i x y u w e1 e2 r1 r2 => eqAt_alike I n X.A.in1 x y u w hu1 (hall i x y e1 e2) r1 r2) _ _ _ _ ?_
      rw [show (List.range us.toArray.size).all (fun _ => true) = true from all_rangeT (fun _ _ => rfl)]
      exact ⟨.bl true, H, I, rfl, q⟩
end L2

/-! MORE RULES over the hand layer (own work): t > u of tuples of ints -/
namespace HT
open PySem PyProof.Rows
theorem rcGt_int (A : Around) (s : Shared) (a : Int) (t : Tok) (c : Int) (u : Tok) (prog : Program) (w : World) (E : Value → Shared → Prop) (Q : Value → Shared → Prop) (h : Q (.bool (decide (c < a))) s) :
    wpAny (model prog w) A (richCompare .Gt (.int a t) (.int c u)) Q E s :=
  (PyProof.Rows.gt_int h : wpAny (model prog w) A (compareOp .Gt (.int a t) (.int c u)) Q E s)
section
open PySem.SeqAt
open PySem.AutoSeq1 (wpAny_loadPart')
open PySem.MeetsSeq PySem.MeetsSeq2 PySem.MeetsSeq3
theorem tup_gtI (p q : Addr) (us ws : Array Value) (k k2 : Nat) (d1 d2 : Option Addr) (s1 s2 : Array (Option Value)) (xs ys : List Int) (hx : IntsAre us.toList xs) (hy : IntsAre ws.toList ys) :
    Meets (Builtin.«tuple.__gt__» ⟨[.ref p, .ref q], []⟩)
      (fun _ R s => s.heap.get? p = some { cls := .type "tuple", dict := d1, data := .seq us k, slots := s1 } ∧ s.heap.get? q = some { cls := .type "tuple", dict := d2, data := .seq ws k2, slots := s2 } ∧ R (.ok (.ret (.bool (lexLt ys xs)))) s) :=
  .of_wp fun prog w A R s hh => by
    obtain ⟨hp, g, d, tk, os⟩ := s
    obtain ⟨h1, h2, hh⟩ := hh
    have subT := AutoSeq1.sub_tuple_tuple
    have m1 : us.size = xs.length := by rw [← hx.length]; simp
    have m2 : ws.size = ys.length := by rw [← hy.length]; simp
    wp_walk using wpAny_loadPart' h1, wpAny_loadPart' h2, wpAny_forIn_list _ (fun left b s' => b.1 = none ∧ s' = ⟨hp, g, d, tk, os⟩ ∧ ∃ (vl wl : List Value) (xl yl : List Int), left = vl.zip wl ∧ IntsAre vl xl ∧ IntsAre wl yl ∧ xl.length + ws.size = yl.length + us.size ∧ R (.ok (.ret (.bool (lexLt yl xl)))) ⟨hp, g, d, tk, os⟩) _
    case turn =>
      rintro ⟨y, x⟩ left b s' ⟨hb', rfl, vl, wl, xl, yl, hz, iv, iw, hlen, hR⟩
      cases iv with
      | nil =>
        rw [List.zip_nil_left] at hz
        cases hz
      | cons a t iv =>
        cases iw with
        | nil =>
          rw [List.zip_nil_right] at hz
          cases hz
        | cons c u iw =>
          rw [List.zip_cons_cons] at hz
          obtain ⟨e1, e2⟩ := List.cons.inj hz
          obtain ⟨e3, e4⟩ := Prod.mk.inj e1
          subst e3 e4
          rw [lexLt_cons] at hR
          rw [List.length_cons, List.length_cons] at hlen
          obtain ⟨e, he, hiff⟩ := eqAt_int A.in1 ⟨hp, g, d, tk, os⟩ a t c u
          refine wpAny_bind (he prog w _ _ ?_)
          cases e with
          | true =>
            rw [if_pos (hiff.mp rfl).symm] at hR
            wp_walk
            exact ⟨rfl, rfl, _, _, _, _, e2, iv, iw, by omega, hR⟩
          | false =>
            rw [if_neg (fun z => absurd (hiff.mpr z.symm) Bool.false_ne_true)] at hR
            have cmpI := rcGt_int A.in1 ⟨hp, g, d, tk, os⟩ a t c u prog w
            wp_walk using cmpI
            exact ⟨_, rfl, by simpa using hR⟩
    case fin =>
      rintro ⟨b1, b2⟩ s' ⟨hb', rfl, vl, wl, xl, yl, hz, iv, iw, hlen, hR⟩
      have hb2 : b1 = none := hb'
      subst hb2
      have hv : lexLt yl xl = decide (ws.size < us.size) := by
        cases iv with
        | nil =>
          cases iw with
          | nil => rw [lexLt_nil_nil, eq_comm]; exact decide_eq_false (by simp only [List.length_nil] at hlen; omega)
          | cons c u iw => rw [lexLt_cons_nil, eq_comm]; exact decide_eq_false (by simp only [List.length_nil, List.length_cons] at hlen; omega)
        | cons a t iv =>
          cases iw with
          | nil => rw [lexLt_nil_cons, eq_comm]; exact decide_eq_true (by simp only [List.length_nil, List.length_cons] at hlen; omega)
          | cons c u iw =>
            rw [List.zip_cons_cons] at hz
            cases hz
      rw [hv] at hR
      wp_walk
      exact ⟨_, rfl, by simpa [Builtin.Tuple.tupleCompareSizes] using hR⟩
    case h => exact ⟨rfl, rfl, us.toList, ws.toList, xs, ys, rfl, hx, hy, by omega, hh⟩
end
theorem gt_tupI {prog : Program} {w : World} {A : Around} {E : Value → Shared → Prop} {s : Shared} {p q : Addr} {us ws : Array Value} {xs ys : List Int} {Q : Value → Shared → Prop} (h1 : IsTup s.heap p us) (h2 : IsTup s.heap q ws) (i1 : IntsAre us.toList xs) (i2 : IntsAre ws.toList ys) (hu : A.units < cLine) (h : Q (.bool (lexLt ys xs)) s) : wpAny (model prog w) A (compareOp .Gt (.ref p) (.ref q)) Q E s := by
  obtain ⟨⟨c1, d1, a1, l1⟩, o1, e1, n1, f1⟩ := id h1
  obtain ⟨⟨c2, d2, a2, l2⟩, o2, e2, n2, f2⟩ := id h2
  simp only at e1 f1 e2 f2
  subst e1 f1 e2 f2
  exact richCompare_meets_room (op := .Gt) ⟨_, o1, rfl⟩ ⟨_, o2, rfl⟩ PySem.F.slot_tuple_gt PySem.F.entry_tuple_gt (PySem.F.args_tuple_gt_2 _ _) (tup_gtI p q us ws n1 n2 d1 d2 l1 l2 xs ys i1 i2) ⟨o1, o2, (fun z => nomatch z), h⟩ hu
end HT
namespace L2
open PySem PySem.Spec PyProof.Rows
theorem op_gtT {X : Cx} (hu : X.A.units < cLine) : OpR X (compareOp .Gt) (fun x y H Q => ∃ a b ns ms, x = .ref a ∧ y = .ref b ∧ H a = some (.tup (ns.map V.int)) ∧ H b = some (.tup (ms.map V.int)) ∧ Q (.bl (HT.lexLt ms ns)) H) := by
  intro pins s σ H x y v u Q I rx ry h
  obtain ⟨a, b, ns, ms, rfl, rfl, ha, hb, q⟩ := h
  cases rx
  cases ry
  obtain ⟨l1, r1, p1, _⟩ := I.tuple (SqT.of ha)
  obtain ⟨l2, r2, p2, _⟩ := I.tuple (SqT.of hb)
  exact HT.gt_tupI p1 p2 (intsAre_of r1) (intsAre_of r2) hu ⟨.bl (HT.lexLt ms ns), H, I, rfl, q⟩
theorem strOf_at (k : Str) : ∀ {us : List Value} {ys : List Str}, StrsAre us ys → ∀ (j : Nat) (h1 : j < us.length) (y : Str), ys[j]? = some y → isStrOf k us[j] = (y == k)
  | _, _, .nil, j, h1, _, _ => absurd h1 (Nat.not_lt_zero _)
  | _, _, .cons x t r, 0, h1, y, h => by
    cases h
    rfl
  | _, _, .cons x t r, j + 1, h1, y, h => strOf_at k r j (Nat.lt_of_succ_lt_succ h1) y h
/-- xs.index(k), xs a list of texts that has k first at i -/
theorem mt_indexS {X : Cx} : MtR X "list.index" (fun x vs H Q => ∃ (a : Addr) (ys : List Str) (k : Str) (i : Nat), x = .ref a ∧ vs = [.str k] ∧ H a = some (.lst (ys.map V.str)) ∧ ys.length ≤ 65536 ∧ ys[i]? = some k ∧ (∀ j, j < i → ys[j]? ≠ some k) ∧ Q (.int (i : Nat)) H) := by
  intro pins s σ H x vs v us Q I rx rv h
  obtain ⟨a, ys, k, i, rfl, rfl, hS, hz, hk, hno, q⟩ := h
  cases rx
  obtain ⟨u, rfl, t', rfl⟩ := rv.one
  obtain ⟨its, r, pl, _⟩ := I.list (SqL.of hS)
  have st := strsAre_of r
  have hlen : its.length = ys.length := by have := r.length; rw [List.length_map] at this; exact this.symm
  have hi : i < its.length := by rw [hlen]; exact (List.getElem?_eq_some_iff.mp hk).1
  obtain ⟨⟨c, d, dt, sl⟩, ho, hc, n, hd⟩ := id pl.isList
  simp only at hc hd
  subst hc hd
  refine call_meets PySem.F.slot_list_index ⟨_, ho, rfl⟩ PySem.F.entry_list_index (PySem.F.args_list_index_2 _ _)
    (SeqAt.list_indexAt a its.toArray n d sl (.str k t') (isStrOf k) i (by simpa using hi) (by omega) ?_ ?_) ⟨ho, fun y hy => (eq_isStrOf k t' st y (by simpa using hy)).at _ _, ⟨.int _, H, I.tok _, ⟨_, rfl⟩, q⟩⟩
  · have := strOf_at k st i hi k hk
    rw [beq_self_eq_true] at this
    exact this
  · intro j hj hlt
    have hj' : j < its.length := by simpa using hj
    have hjy : j < ys.length := by omega
    have := strOf_at k st j hj' ys[j] (List.getElem?_eq_getElem hjy)
    have hne : (ys[j] == k) = false := by
      rw [beq_eq_false_iff_ne]
      intro z
      exact hno j hlt (by rw [List.getElem?_eq_getElem hjy, z])
    rw [hne] at this
    exact this
end L2

namespace K22
open PySem L2
def top (i : Nat) : Stmt := PySem.Challenge.pw_sayswho_k22_whole_all_sayings.main.body.getD i (.Pass ⟨0, 0, 0, 0⟩)
abbrev sPWithNumber : Stmt := top 5
abbrev sPRests : Stmt := top 6
abbrev sPEithers : Stmt := top 7
abbrev sPRisingPairs : Stmt := top 8
abbrev sPUnlikePairs : Stmt := top 9
abbrev sPWithPair : Stmt := top 10
abbrev sPWithPairAndNumber : Stmt := top 11
abbrev sPGaps : Stmt := top 12
abbrev sPWithThree : Stmt := top 13
abbrev sPSayings : Stmt := top 14
abbrev sNext : Stmt := top 16
abbrev sBoxes : Stmt := top 17
abbrev sStatement : Stmt := top 18
abbrev sRows : Stmt := top 19
abbrev sOneFits : Stmt := top 20
abbrev sMoreFits : Stmt := top 21
abbrev sRank : Stmt := top 22
abbrev sFits : Stmt := top 23
abbrev sCount : Stmt := top 24
abbrev sGood : Stmt := top 25
abbrev sLaw : Stmt := top 26
/-- the built-ins' names are free -/
structure Blt (mg : Str → Option Value) : Prop where
  bool : mg "bool" = none
  enumerate : mg "enumerate" = none
  int : mg "int" = none
  isinstance : mg "isinstance" = none
  len : mg "len" = none
  list : mg "list" = none
  min : mg "min" = none
  range : mg "range" = none
  tuple : mg "tuple" = none
theorem bt_bool : bootBuiltins "bool" = some (.type "bool") := by decide +kernel
theorem bt_int : bootBuiltins "int" = some (.type "int") := by decide +kernel
theorem bt_isinstance : bootBuiltins "isinstance" = some (.builtin "isinstance") := by decide +kernel
theorem bt_len : bootBuiltins "len" = some (.builtin "len") := by decide +kernel
theorem bt_list : bootBuiltins "list" = some (.type "list") := by decide +kernel
theorem bt_min : bootBuiltins "min" = some (.builtin "min") := by decide +kernel
theorem bt_tuple : bootBuiltins "tuple" = some (.type "tuple") := by decide +kernel
structure Glb (K : PySem.W.Frag) (mg : Str → Option Value) : Prop where
  LEAST_DIVISOR : GI mg "LEAST_DIVISOR" 2
  MOST_DIVISOR : GI mg "MOST_DIVISOR" 6
  WIDEST_GAP : GI mg "WIDEST_GAP" 20
  WIDEST_SUM : GI mg "WIDEST_SUM" 40
end K22

namespace K22
open PySem L2
local macro_rules | `(tactic| wtm_at "h") => `(tactic| first | assumption | exact upd_same)
local macro_rules | `(tactic| wtm_at "c") => `(tactic| first | exact p1018 | exact cmr (by decide) (by decide) | exact cm (by decide) (by decide) | exact cm (by omega) (by omega) | exact ⟨by decide, by decide⟩ | (dsimp only; omega) | omega | assumption)
local macro_rules | `(tactic| wtm_at "s") => `(tactic| first | refine ⟨_, rfl, ?_⟩ | refine ⟨_, _, rfl, rfl, ?_⟩ | refine ⟨rfl, ?_⟩ | refine ⟨_, _, _, _, rfl, rfl, SqT.of (by wtm_at "h"), rfl, ?_⟩ | refine ⟨_, _, _, _, rfl, rfl, SqL.of (by wtm_at "h"), rfl, ?_⟩ | refine And.intro (by wtm_at "c") ?_)
local macro_rules | `(tactic| wtm_at "ss") => `(tactic| repeat wtm_at "s")
/-! ### what is drawn -/
def PotAt (H : Hp) (r : Addr) : Prop := ∃ c k : Int, H r = some (.lst [.int c, .int k])
theorem PotAt.mono {H H' : Hp} {r : Addr} (h : PotAt H r) (e : Same H H') : PotAt H' r := by
  obtain ⟨a, b, h1⟩ := h
  exact ⟨a, b, e _ _ h1⟩
theorem PotAt.new {H : Hp} {r p : Addr} (h : PotAt H r) (hp : H p = none) (o : HO) : PotAt (upd H p o) r := h.mono (Same.new hp o)
theorem PotAt.up {H : Hp} {r p : Addr} {o : HO} (h : PotAt H r) (hp : r ≠ p) : PotAt (upd H p o) r := by
  obtain ⟨a, b, h1⟩ := h
  exact ⟨a, b, by rw [upd_ne hp]; exact h1⟩
theorem PotAt.ne {H : Hp} {r p : Addr} {o : HO} (h : PotAt H r) (hp : H p = some o) (ho : ∀ a b : Int, o ≠ .lst [.int a, .int b]) : p ≠ r := fun z => by
  obtain ⟨a, b, h1⟩ := h
  rw [z, h1] at hp
  cases hp
  exact ho a b rfl
theorem PotAt.ne_tup {H : Hp} {r p : Addr} {xs : List V} (h : PotAt H r) (hp : H p = some (.tup xs)) : p ≠ r := h.ne hp fun _ _ z => nomatch z
theorem PotAt.nn {H : Hp} {r p : Addr} (h : PotAt H r) (hp : H p = none) : p ≠ r := fun z => by
  obtain ⟨a, b, h1⟩ := h
  rw [z, h1] at hp
  cases hp
def spNext : Sp := fun vs H Q _ => ∃ (r : Addr) (many : Int), vs = [.ref r, .int many] ∧ PotAt H r ∧ Few many ∧ ∀ (n : Int) (H' : Hp), 0 ≤ n → n < many → But r H H' → PotAt H' r → Q (.int n) H'
def spCells (K : PySem.W.Frag) : Sp := fun vs H Q _ => ∃ (a : Addr) (ns : List Int), vs = [.ref a] ∧ SqL K H a (ns.map V.int) ∧ ns.length ≤ 63 ∧ ∀ (p : Addr) (ms : List Int), H p = none → 0 < ms.length → ms.length ≤ 63 → Q (.ref p) (upd H p (.lst (ms.map V.int)))
section
variable {P : Program} {w : World} {K : PySem.W.Frag} {mg : Str → Option Value} {base : Heap}
theorem scNext : FnScope ["pot", "many", "cell", "stir"] ["pot", "many"] (defScope sNext) := ⟨rfl, rfl, rfl, by decide +kernel, rfl, by decide +kernel, by decide +kernel⟩
theorem ok_next (h : Has K mg "_law_next" sNext ["pot", "many"]) : Cal P w K mg base 1 "_law_next" ["pot", "many"] spNext := by
  refine h.cal scNext (fun vs H Q E h => ?_) (fun f cdv A outer s H vs Q E hr h => ?_)
  · obtain ⟨r, m, rfl, _⟩ := h
    rfl
  obtain ⟨r, many, rfl, ⟨c, k, hR⟩, hm, q⟩ := h
  refine ⟨_, (pss_cons (ps_asg (pe_op op_add (pe_ix ix_list (pv 0) pe_int (fun _ _ => rfl)) pe_int) (pg_sub (pv 0) pe_int set_list))
    (pss_cons (ps_set (i := 2) scNext.nd rfl (Or.inl rfl) (pe_ix ix_list (pv 0) pe_int (fun _ _ => rfl)))
    (pss_cons (ps_if (pt_cmpR op_ge (pv 2) (pe_op op_pow pe_int pe_int) (nomark _)) (pss_cons (ps_asg (pe_op op_fdivB (pv 2) (pv 1)) (pg_sub (pv 0) pe_int set_list))
    (pss_one (ps_ret (pe_op op_mod (pv 2) (pv 1))))) pss_nil)
    (pss_cons (ps_set (i := 3) scNext.nd rfl (Or.inl rfl) (pe_op op_mod (pe_op op_add (pe_op op_add (pe_op op_mul (pv 2) pe_int) (pe_op op_mul (pe_ix ix_list (pv 0) pe_int (fun _ _ => rfl)) pe_int)) pe_int) pe_int))
    (pss_cons (ps_set (i := 3) scNext.nd rfl (Or.inl rfl) (pe_op op_mod (pe_op op_mul (pv 3) (pv 3)) pe_int))
    (pss_one (ps_ret (pe_op op_mod (pe_op op_fdiv (pe_op op_mod (pe_op op_add (pe_op op_mul (pv 3) pe_int) (pe_op op_mul (pe_ix ix_list (pv 0) pe_int (fun _ _ => rfl)) pe_int)) pe_int) pe_int) (pv 1))))))))), ?_⟩
  wtm_at "ss"
  refine ⟨r, _, _, _, rfl, rfl, hR, rfl, ?_⟩
  have hR2 : (upd H r (.lst [.int c, .int (k + 1)])) r = some (.lst [.int c, .int (k + 1)]) := upd_same
  refine ⟨_, rfl, r, _, _, _, rfl, rfl, SqL.of hR2, rfl, ?_⟩
  wtm_at "ss"
  refine ite_d (fun _ => ?_) (fun _ => ?_)
  · refine ⟨_, rfl, _, rfl, _, _, rfl, rfl, hm, ?_⟩
    refine ⟨_, rfl, r, _, _, _, rfl, rfl, hR2, rfl, ?_⟩
    refine ⟨_, rfl, _, rfl, _, _, rfl, rfl, hm.1, ?_⟩
    exact q _ _ (Int.emod_nonneg _ (by have := hm.1; omega)) (Int.emod_lt_of_pos _ hm.1) (by rw [upd_upd]; exact But.upd _) ⟨c / many, k + 1, upd_same⟩
  · wtm_at "ss"
    refine ⟨hm.1, ?_⟩
    exact q _ _ (Int.emod_nonneg _ (by have := hm.1; omega)) (Int.emod_lt_of_pos _ hm.1) (But.upd _) ⟨c, k + 1, hR2⟩
end
end K22

namespace K22
open PySem L2
local macro_rules | `(tactic| wtm_at "h") => `(tactic| first | assumption | exact upd_same)
local macro_rules | `(tactic| wtm_at "c") => `(tactic| first | exact p1018 | exact cmr (by decide) (by decide) | exact cm (by decide) (by decide) | exact cm (by omega) (by omega) | exact ⟨by decide, by decide⟩ | (dsimp only; omega) | omega | assumption)
local macro_rules | `(tactic| wtm_at "s") => `(tactic| first | refine ⟨_, rfl, ?_⟩ | refine ⟨_, _, rfl, rfl, ?_⟩ | refine ⟨rfl, ?_⟩ | refine ⟨_, _, _, _, rfl, rfl, SqT.of (by wtm_at "h"), rfl, ?_⟩ | refine ⟨_, _, _, _, rfl, rfl, SqL.of (by wtm_at "h"), rfl, ?_⟩ | refine And.intro (by wtm_at "c") ?_)
local macro_rules | `(tactic| wtm_at "ss") => `(tactic| repeat wtm_at "s")
/-! ### boxes -/
structure Box where
  nm : Str
  lo : Int
  hi : Int
  fst : Int
def Box.tup (b : Box) : List V := [.str b.nm, .int b.lo, .int b.hi, .int b.fst]
structure Box.Ok (b : Box) : Prop where
  fl : b.lo ≤ b.fst
  fh : b.fst ≤ b.hi
  lo : -99 ≤ b.lo
  hi : b.hi ≤ 99
  w : b.hi - b.lo < 20
def Box.size (b : Box) : Nat := (b.hi - b.lo + 1).toNat
def vol : List Box → Nat
  | [] => 1
  | b :: r => b.size * vol r
theorem vol_app (ys : List Box) : ∀ xs : List Box, vol (xs ++ ys) = vol xs * vol ys
  | [] => by simp [vol]
  | c :: r => by
    show c.size * vol (r ++ ys) = c.size * vol r * vol ys
    rw [vol_app ys r, Nat.mul_assoc]
theorem vol_rev : ∀ xs : List Box, vol xs.reverse = vol xs
  | [] => rfl
  | c :: r => by
    rw [List.reverse_cons, vol_app, vol_rev r]
    show vol r * (c.size * 1) = c.size * vol r
    rw [Nat.mul_one, Nat.mul_comm]
def BoxAt (H : Hp) (v : V) (b : Box) : Prop := ∃ p, v = .ref p ∧ H p = some (.tup b.tup)
structure BoxesAt (H : Hp) (pb : Addr) (us : List V) (bs : List Box) : Prop where
  at_ : H pb = some (.lst us)
  each : All2 (BoxAt H) us bs
theorem BoxAt.same {H H' : Hp} {v : V} {b : Box} (h : BoxAt H v b) (s : Same H H') : BoxAt H' v b := by
  obtain ⟨p, rfl, hp⟩ := h
  exact ⟨p, rfl, s _ _ hp⟩
theorem BoxesAt.same {H H' : Hp} {pb : Addr} {us : List V} {bs : List Box} (h : BoxesAt H pb us bs) (s : Same H H') : BoxesAt H' pb us bs := ⟨s _ _ h.at_, h.each.mono fun _ _ z => z.same s⟩
theorem BoxAt.but {H H' : Hp} {r : Addr} {v : V} {b : Box} (h : BoxAt H v b) (P : PotAt H r) (s : But r H H') : BoxAt H' v b := by
  obtain ⟨p, rfl, hp⟩ := h
  exact ⟨p, rfl, s _ _ (P.ne_tup hp) hp⟩
theorem BoxesAt.but {H H' : Hp} {r pb : Addr} {us : List V} {bs : List Box} (h : BoxesAt H pb us bs) (P : PotAt H r) (n : pb ≠ r) (s : But r H H') : BoxesAt H' pb us bs := ⟨s _ _ n h.at_, h.each.mono fun _ _ z => z.but P s⟩
theorem All2.rev {α β : Type} {R : α → β → Prop} {xs : List α} {ys : List β} (h : All2 R xs ys) : All2 R xs.reverse ys.reverse := by
  have hl := h.1
  refine ⟨by simp [hl], fun i x y e1 e2 => ?_⟩
  have h1 : i < xs.length := by have := (List.getElem?_eq_some_iff.mp e1).1; rwa [List.length_reverse] at this
  rw [List.getElem?_reverse h1] at e1
  rw [List.getElem?_reverse (by omega)] at e2
  rw [← hl] at e2
  exact h.2 _ x y e1 e2
/-- what the boxes that were drawn are -/
structure Drawn (zs : List Str) (most : Int) (bs : List Box) : Prop where
  l1 : 1 ≤ bs.length
  l4 : bs.length ≤ 4
  ok : ∀ b ∈ bs, b.Ok
  vol : (vol bs : Int) ≤ most
  nms : bs.map Box.nm = zs.take bs.length ∨ bs.map Box.nm = (zs.take bs.length).reverse
def spBoxes : Sp := fun vs H Q _ => ∃ (r pn : Addr) (most : Int) (zs : List Str), vs = [.ref r, .int most, .ref pn] ∧ PotAt H r ∧ 1 ≤ most ∧ most ≤ 400 ∧ H pn = some (.lst (zs.map V.str)) ∧ pn ≠ r ∧ 4 ≤ zs.length ∧
  ∀ (pb : Addr) (us : List V) (bs : List Box) (H' : Hp), H pb = none → pb ≠ r → But r H H' → PotAt H' r → BoxesAt H' pb us bs → Drawn zs most bs → Q (.ref pb) H'
section
variable {P : Program} {w : World} {K : PySem.W.Frag} {mg : Str → Option Value} {base : Heap}
theorem at3c {z : Int} (h0 : 0 ≤ z) (h1 : z < 3) : ∃ k : Int, atI ([.int 20, .int 4, .int 3] : List V) z = some (.int k) ∧ 0 < k ∧ k ≤ 20 := by
  have h : z = 0 ∨ z = 1 ∨ z = 2 := by omega
  rcases h with rfl | rfl | rfl
  · exact ⟨20, rfl, by decide, by decide⟩
  · exact ⟨4, rfl, by decide, by decide⟩
  · exact ⟨3, rfl, by decide, by decide⟩
theorem scBoxes : FnScope ["pot", "most", "names", "many", "cap", "near", "boxes", "k", "wide", "low"] ["pot", "most", "names"] (defScope sBoxes) := ⟨rfl, rfl, rfl, by decide +kernel, rfl, by decide +kernel, by decide +kernel⟩
theorem ok_boxes (h : Has K mg "_law_boxes" sBoxes ["pot", "most", "names"]) (B : Blt mg) (cN : Cal P w K mg base 1 "_law_next" ["pot", "many"] spNext) : Cal P w K mg base 2 "_law_boxes" ["pot", "most", "names"] spBoxes := by
  refine h.cal scBoxes (fun vs H Q E h => ?_) (fun f cdv A outer s H vs Q E hr h => ?_)
  · obtain ⟨r, pn, m, zs, rfl, _⟩ := h
    rfl
  obtain ⟨r, pn, most, zs, rfl, hR, m1, m4, hn, nnr, z4, q⟩ := h
  refine ⟨_, (pss_cons (ps_set (i := 3) scBoxes.nd rfl (Or.inl rfl) (pe_op op_add pe_int (pe_cal cN hr rfl (pa_cons (pv 0) (pa_cons pe_int pa_nil)))))
    (pss_cons (ps_set (i := 4) scBoxes.nd rfl (Or.inl rfl) (pe_ix ix_list (pe_lst (pa_cons pe_int (pa_cons pe_int (pa_cons pe_int pa_nil)))) (pe_cal cN hr rfl (pa_cons (pv 0) (pa_cons pe_int pa_nil))) (fun _ _ => rfl)))
    (pss_cons (ps_set (i := 5) scBoxes.nd rfl (Or.inl rfl) (pe_cal cN hr rfl (pa_cons (pv 0) (pa_cons pe_int pa_nil))))
    (pss_cons (ps_set (i := 6) scBoxes.nd rfl (Or.inl rfl) (pe_lst pa_nil))
    (pss_cons (ps_for PassesOwn.never rfl (pi_range1 rfl B.range (pa_cons (pv 3) pa_nil)) (pg_name (i := 7) scBoxes.nd rfl (Or.inl rfl)) (pss_cons (ps_set (i := 8) scBoxes.nd rfl (Or.inl rfl) (pe_op op_add pe_int (pe_cal cN hr rfl (pa_cons (pv 0) (pa_cons (pe_callB (call_min2 rfl) rfl B.min bt_min (pa_cons (pv 4) (pa_cons (pv 1) pa_nil))) pa_nil)))))
    (pss_cons (ps_set (i := 1) scBoxes.nd rfl (Or.inl rfl) (pe_op op_fdiv (pv 1) (pv 8)))
    (pss_cons (ps_set (i := 9) scBoxes.nd rfl (Or.inl rfl) (pe_op op_sub (pe_cal cN hr rfl (pa_cons (pv 0) (pa_cons pe_int pa_nil))) pe_int))
    (pss_cons (ps_if (pt_cmpR op_eq (pv 5) pe_int (nomark _)) (pss_one (ps_set (i := 9) scBoxes.nd rfl (Or.inl rfl) (pe_op op_sub (pe_cal cN hr rfl (pa_cons (pv 0) (pa_cons (pe_op op_sub pe_int (pv 8)) pa_nil))) pe_int))) pss_nil)
    (pss_one (ps_expr (pe_bm PySem.F.plainAttrs_list PySem.F.slot_list_append PySem.F.type_list_append mt_append (pv 6) (pa_cons (pe_tup (pa_cons (pe_ix ix_list (pv 2) (pv 7) (fun _ _ => rfl)) (pa_cons (pv 9) (pa_cons (pe_op op_sub (pe_op op_add (pv 9) (pv 8)) pe_int) (pa_cons (pe_op op_add (pv 9) (pe_cal cN hr rfl (pa_cons (pv 0) (pa_cons (pv 8) pa_nil)))) pa_nil))))) pa_nil)))))))))
    (pss_cons (ps_if (pt_cmpR op_eq (pe_cal cN hr rfl (pa_cons (pv 0) (pa_cons pe_int pa_nil))) pe_int (nomark _)) (pss_one (ps_ret (pe_rev (pv 6) (pe_un un_neg pe_int)))) pss_nil)
    (pss_one (ps_ret (pv 6))))))))), ?_⟩
  wtm_at "ss"
  refine ⟨r, 4, rfl, hR, few_of (by decide) (by decide), fun m H1 m0 m1' b1 P1 => ?_⟩
  wtm_at "ss"
  refine ⟨(by show 3 ≤ sizeLine; decide), fun l hl => ?_⟩
  wtm_at "ss"
  have nlr : l ≠ r := P1.nn hl
  have P1' := P1.new hl (.lst [.int 20, .int 4, .int 3])
  have b1' := b1.trans (.new hl (.lst [.int 20, .int 4, .int 3]))
  have hl1 : upd H1 l (.lst [.int 20, .int 4, .int 3]) l = some (.lst [.int 20, .int 4, .int 3]) := upd_same
  generalize upd H1 l (.lst [.int 20, .int 4, .int 3]) = H1' at *
  refine ⟨r, 3, rfl, P1', few_of (by decide) (by decide), fun z H2 z0 z1 b2 P2 => ?_⟩
  obtain ⟨cap, hcap, c0, c1⟩ := at3c z0 z1
  refine ⟨l, _, _, _, rfl, rfl, SqL.of (b2 _ _ nlr hl1), hcap, ?_⟩
  wtm_at "ss"
  refine ⟨r, 4, rfl, P2, few_of (by decide) (by decide), fun near H3 _ _ b3 P3 => ?_⟩
  wtm_at "ss"
  refine ⟨(by show 0 ≤ sizeLine; decide), fun pb hpb => ?_⟩
  have npr : pb ≠ r := P3.nn hpb
  have b3' := b1'.trans (b2.trans b3)
  have hpbH : H pb = none := But.none b3' npr hpb
  wtm_at "ss"
  refine for_range (lo := 0) (n := (1 + m).toNat) (fun i σ H4 => ∃ (us : List V) (bs : List Box) (mo : Int) (c7 c8 c9 : Option V), σ = [some (.ref r), some (.int mo), some (.ref pn), some (.int (1 + m)), some (.int cap), some (.int near), some (.ref pb), c7, c8, c9] ∧
      us.length = i ∧ 1 ≤ mo ∧ (vol bs : Int) * mo ≤ most ∧ bs.map Box.nm = zs.take i ∧ (∀ b ∈ bs, b.Ok) ∧ BoxesAt H4 pb us bs ∧ But r H H4 ∧ PotAt H4 r)
    ⟨[], [], most, none, none, none, rfl, rfl, m1, (by show ((1 : Nat) : Int) * most ≤ most; omega), rfl, (fun b hb => nomatch hb), ⟨upd_same, All2.nil⟩, b3'.trans (.new hpb _), P3.new hpb _⟩ ?_ ?_
  · rintro i σ H4 hi ⟨us, bs, mo, c7, c8, c9, rfl, hus, mo1, hvol, hnm, hok, X4, b4, P4⟩
    have e0 : (0 + (i : Int)) = (i : Int) := by omega
    rw [e0]
    wtm_at "ss"
    refine ⟨_, _, rfl, ?_⟩
    obtain ⟨mn, hmn, mn1, mn2, mn3⟩ : ∃ mn : Int, (if mo < cap then mo else cap) = mn ∧ 1 ≤ mn ∧ mn ≤ 20 ∧ mn ≤ mo := ⟨_, rfl, by split <;> omega, by split <;> omega, by split <;> omega⟩
    rw [hmn]
    refine ⟨r, mn, rfl, P4, few_of (by omega) (by omega), fun wd H5 wd0 wd1 b5 P5 => ?_⟩
    have X5 := X4.but P4 npr b5
    refine ⟨_, _, rfl, rfl, ?_⟩
    dsimp only
    generalize hw : 1 + wd = wide
    have hmo : mo < 1073741824 := by
      have hv1 : 1 ≤ vol bs := by
        cases hz : vol bs with
        | zero =>
          exfalso
          have : ∀ bs : List Box, (∀ b ∈ bs, b.Ok) → 1 ≤ vol bs := by
            intro bs
            induction bs with
            | nil => intro _; exact Nat.le_refl 1
            | cons b t ih =>
              intro h
              have hb := h b List.mem_cons_self
              have h1 : 1 ≤ b.size := by unfold Box.size; have := hb.fl; have := hb.fh; omega
              exact Nat.mul_le_mul h1 (ih fun c hc => h c (List.mem_cons_of_mem _ hc))
          have := this bs hok
          omega
        | succ n => omega
      have : (1 : Int) * mo ≤ (vol bs : Int) * mo := Int.mul_le_mul_of_nonneg_right (by omega) (by omega)
      omega
    refine ⟨_, rfl, _, rfl, _, _, rfl, rfl, ⟨(show (0 : Int) < wide by omega), (show wide < 1073741824 by omega)⟩, ?_⟩
    wtm_at "ss"
    refine ⟨r, 9, rfl, P5, few_of (by decide) (by decide), fun lw H6 lw0 lw1 b6 P6 => ?_⟩
    have X6 := X5.but P5 npr b6
    have b46 := b4.trans (b5.trans b6)
    have mo1' : 1 ≤ mo / wide := by
      have : wide ≤ mo := by omega
      exact (Int.le_ediv_iff_mul_le (by omega)).mpr (by omega)
    refine ⟨_, _, rfl, rfl, gset (seq_cut (fun σ' H' => ∃ low : Int, σ' = [some (.ref r), some (.int (mo / wide)), some (.ref pn), some (.int (1 + m)), some (.int cap), some (.int near), some (.ref pb), some (.int i), some (.int wide), some (.int low)] ∧ -99 ≤ low ∧ low + wide - 1 ≤ 99 ∧ BoxesAt H' pb us bs ∧ But r H H' ∧ PotAt H' r) (fun R' hR' => ?_) ?_)⟩
    · wtm_at "ss"
      refine ite_d (fun _ => ?_) (fun _ => ?_)
      · wtm_at "ss"
        refine ⟨r, 200 - wide, rfl, P6, few_of (by omega) (by omega), fun l2 H7 l20 l21 b7 P7 => ?_⟩
        wtm_at "ss"
        exact hR' _ _ ⟨l2 - 99, rfl, by omega, by omega, X6.but P6 npr b7, b46.trans b7, P7⟩
      · exact hR' _ _ ⟨lw - 6, rfl, by omega, by omega, X6, b46, P6⟩
    rintro σ7 H7 ⟨low, rfl, lo1, lo2, X7, b7, P7⟩
    refine ⟨_, rfl, .inl ⟨rfl, _, SqL.of X7.at_⟩, ?_⟩
    have hi4 : i < zs.length := by omega
    refine ⟨_, rfl, _, rfl, pn, _, _, _, rfl, rfl, SqL.of (b7 _ _ nnr hn), atI_nat (j := i) (v := .str zs[i]) (by rw [List.getElem?_map, List.getElem?_eq_getElem hi4]; rfl), ?_⟩
    wtm_at "ss"
    refine ⟨r, wide, rfl, P7, few_of (by omega) (by omega), fun fs H8 fs0 fs1 b8 P8 => ?_⟩
    have X8 := X7.but P7 npr b8
    wtm_at "ss"
    refine ⟨(by show 4 ≤ sizeLine; decide), fun pt hpt => ?_⟩
    have s9 := Same.new hpt (.tup [.str zs[i], .int low, .int (low + wide - 1), .int (low + fs)])
    have X9 := X8.same s9
    refine ⟨pb, us, _, rfl, rfl, X9.at_, small1000 (by omega), ?_⟩
    have b9 := (b7.trans b8).trans (But.of s9)
    have P9 := P8.mono s9
    have t9 : (upd H8 pt (.tup [.str zs[i], .int low, .int (low + wide - 1), .int (low + fs)])) pt = some (.tup [.str zs[i], .int low, .int (low + wide - 1), .int (low + fs)]) := upd_same
    generalize (upd H8 pt (.tup [.str zs[i], .int low, .int (low + wide - 1), .int (low + fs)])) = H9 at *
    have stay : ∀ v b, BoxAt H9 v b → BoxAt (upd H9 pb (.lst (us ++ [.ref pt]))) v b := fun v b ⟨p, e, hp⟩ => ⟨p, e, by rw [upd_ne (ne_of hp X9.at_ (fun z => nomatch z))]; exact hp⟩
    have hbl : bs.length = i := by rw [← X9.each.1, hus]
    refine ⟨us ++ [.ref pt], bs ++ [⟨zs[i], low, low + wide - 1, low + fs⟩], mo / wide, _, _, _, rfl, by rw [List.length_append, hus]; rfl, mo1', ?_, ?_, ?_, ⟨upd_same, (X9.each.mono stay).snoc (stay (.ref pt) ⟨zs[i], low, low + wide - 1, low + fs⟩ ⟨pt, rfl, t9⟩)⟩, b9.put hpbH, P9.up npr.symm⟩
    · rw [vol_app]
      show ((vol bs * (Box.size ⟨zs[i], low, low + wide - 1, low + fs⟩ * 1) : Nat) : Int) * (mo / wide) ≤ most
      have es : Box.size ⟨zs[i], low, low + wide - 1, low + fs⟩ = wide.toNat := by
        show (low + wide - 1 - low + 1).toNat = _
        congr 1
        omega
      rw [es, Nat.mul_one, Int.natCast_mul, Int.mul_assoc, show ((wide.toNat : Nat) : Int) = wide by omega]
      exact Int.le_trans (Int.mul_le_mul_of_nonneg_left (Int.mul_ediv_self_le (by omega)) (by omega)) hvol
    · rw [List.map_append, hnm, List.take_add_one, List.getElem?_eq_getElem hi4]
      rfl
    · intro b hb
      rcases List.mem_append.mp hb with hb | hb
      · exact hok b hb
      · rw [List.mem_singleton.mp hb]
        exact ⟨(show low ≤ low + fs by omega), (show low + fs ≤ low + wide - 1 by omega), lo1, lo2, (show low + wide - 1 - low < 20 by omega)⟩
  rintro σ H4 ⟨us, bs, mo, c7, c8, c9, rfl, hus, mo1, hvol, hnm, hok, X4, b4, P4⟩
  have hbl : bs.length = (1 + m).toNat := by rw [← X4.each.1, hus]
  have hv : (vol bs : Int) ≤ most := Int.le_trans (by have := Int.mul_le_mul_of_nonneg_left mo1 (show (0 : Int) ≤ (vol bs : Int) by omega); omega) hvol
  wtm_at "ss"
  refine ⟨r, 2, rfl, P4, few_of (by decide) (by decide), fun c H5 _ _ b5 P5 => ?_⟩
  have X5 := X4.but P4 npr b5
  wtm_at "ss"
  refine ite_d (fun _ => ?_) (fun _ => ?_)
  · refine ⟨_, rfl, _, rfl, rfl, pb, us, rfl, SqL.of X5.at_, fun p2 hp2 => ?_⟩
    have s6 := Same.new hp2 (.lst us.reverse)
    refine q p2 us.reverse bs.reverse _ (But.none (b4.trans b5) (P5.nn hp2) hp2) (P5.nn hp2) ((b4.trans b5).trans (.of s6)) (P5.mono s6) ⟨upd_same, All2.rev (X5.same s6).each⟩ ⟨by rw [List.length_reverse]; omega, by rw [List.length_reverse]; omega, fun b hb => hok b (List.mem_reverse.mp hb), by rw [vol_rev]; exact hv, .inr ?_⟩
    rw [List.map_reverse, hnm, List.length_reverse, hbl]
  · refine ⟨_, rfl, ?_⟩
    exact q pb us bs _ hpbH npr (b4.trans b5) P5 X5 ⟨by omega, by omega, hok, hv, .inl (by rw [hnm, hbl])⟩
end
end K22

namespace K22
open PySem L2
local macro_rules | `(tactic| wtm_at "h") => `(tactic| first | assumption | exact upd_same)
local macro_rules | `(tactic| wtm_at "c") => `(tactic| first | exact p1018 | exact cmr (by decide) (by decide) | exact cm (by decide) (by decide) | exact cm (by omega) (by omega) | exact ⟨by decide, by decide⟩ | (dsimp only; omega) | omega | assumption)
local macro_rules | `(tactic| wtm_at "s") => `(tactic| first | refine ⟨_, rfl, ?_⟩ | refine ⟨_, _, rfl, rfl, ?_⟩ | refine ⟨rfl, ?_⟩ | refine ⟨_, _, _, _, rfl, rfl, SqT.of (by wtm_at "h"), rfl, ?_⟩ | refine ⟨_, _, _, _, rfl, rfl, SqL.of (by wtm_at "h"), rfl, ?_⟩ | refine And.intro (by wtm_at "c") ?_)
local macro_rules | `(tactic| wtm_at "ss") => `(tactic| repeat wtm_at "s")
/-! ### sayings -/
inductive Say where
  | is_ (a : Nat) (n : Int) | frm (a : Nat) (n : Int) | to_ (a : Nat) (n : Int) | rest (a : Nat) (m r : Int) | eith (a : Nat) (n k : Int) | nev (a : Nat) (n : Int)
  | same (a b : Nat) | below (a b : Nat) | most (a b : Nat) | gap (a b : Nat) (n : Int) | sum (a b : Nat) (n : Int) | adds (a b c : Nat) | times (a b c : Nat)
  deriving DecidableEq
def Say.tup : Say → List V
  | .is_ a n => [.str "is", .int a, .int n]
  | .frm a n => [.str "from", .int a, .int n]
  | .to_ a n => [.str "to", .int a, .int n]
  | .rest a m r => [.str "rest", .int a, .int m, .int r]
  | .eith a n k => [.str "either", .int a, .int n, .int k]
  | .nev a n => [.str "never", .int a, .int n]
  | .same a b => [.str "same", .int a, .int b]
  | .below a b => [.str "below", .int a, .int b]
  | .most a b => [.str "most", .int a, .int b]
  | .gap a b n => [.str "gap", .int a, .int b, .int n]
  | .sum a b n => [.str "sum", .int a, .int b, .int n]
  | .adds a b c => [.str "adds", .int a, .int b, .int c]
  | .times a b c => [.str "times", .int a, .int b, .int c]
/-- of one box that holds x -/
def Say.so1 (x : Int) : Say → Bool
  | .is_ _ n => x == n
  | .frm _ n => decide (n ≤ x)
  | .to_ _ n => decide (x ≤ n)
  | .rest _ m r => (x - r) % m == 0
  | .eith _ n k => x == n || x == k
  | .nev _ n => !(x == n)
  | _ => false
/-- of two boxes that hold x and y -/
def Say.so2 (x y : Int) : Say → Bool
  | .same _ _ => x == y
  | .below _ _ => decide (x < y)
  | .most _ _ => decide (x ≤ y)
  | .gap _ _ n => x - y == n
  | .sum _ _ n => x + y == n
  | _ => false
def Say.fst : Say → Nat
  | .is_ a _ | .frm a _ | .to_ a _ | .rest a _ _ | .eith a _ _ | .nev a _ | .same a _ | .below a _ | .most a _ | .gap a _ _ | .sum a _ _ | .adds a _ _ | .times a _ _ => a
def Say.so (vs : List Int) (s : Say) : Bool := match s with
  | .adds a b c => vs.getD a 0 + vs.getD b 0 == vs.getD c 0
  | .times a b c => vs.getD a 0 * vs.getD b 0 == vs.getD c 0
  | .same a b | .below a b | .most a b | .gap a b _ | .sum a b _ => s.so2 (vs.getD a 0) (vs.getD b 0)
  | .is_ a _ | .frm a _ | .to_ a _ | .rest a _ _ | .eith a _ _ | .nev a _ => s.so1 (vs.getD a 0)
def Say.one : Say → Bool
  | .is_ _ _ | .frm _ _ | .to_ _ _ | .rest _ _ _ | .eith _ _ _ | .nev _ _ => true
  | _ => false
/-- its places are places of many boxes -/
def Say.In (many : Nat) : Say → Prop
  | .is_ a _ | .frm a _ | .to_ a _ | .eith a _ _ | .nev a _ => a < many
  | .rest a m _ => a < many ∧ 0 < m
  | .same a b | .below a b | .most a b | .gap a b _ | .sum a b _ => a < many ∧ b < many
  | .adds a b c | .times a b c => a < many ∧ b < many ∧ c < many
theorem iteB {b : Bool} {A B : Prop} (h : b = true) (a : A) : if b = true then A else B := by rw [if_pos h]; exact a
theorem iteC {b : Bool} {A B : Prop} (h : b = false) (a : B) : if b = true then A else B := by rw [if_neg (by rw [h]; decide)]; exact a
theorem bl_eq {Q : VK} {H : Hp} {b c : Bool} (q : Q (.bl c) H) (e : b = c) : Q (.bl b) H := e ▸ q
def spIsOne : Sp := fun vs H Q _ => ∃ (p : Addr) (s : Say) (x : Int), vs = [.ref p, .int x] ∧ H p = some (.tup s.tup) ∧ s.one = true ∧ s.In (s.fst + 1) ∧ Q (.bl (s.so1 x)) H
def spIsTwo : Sp := fun vs H Q _ => ∃ (p : Addr) (s : Say) (x y : Int), vs = [.ref p, .int x, .int y] ∧ H p = some (.tup s.tup) ∧ (match s with | .same _ _ | .below _ _ | .most _ _ | .gap _ _ _ | .sum _ _ _ => True | _ => False) ∧ Q (.bl (s.so2 x y)) H
def spIsSo : Sp := fun vs H Q _ => ∃ (p q : Addr) (s : Say) (ns : List Int), vs = [.ref p, .ref q] ∧ H p = some (.tup s.tup) ∧ H q = some (.tup (ns.map V.int)) ∧ s.In ns.length ∧ (∀ n ∈ ns, -1000 < n ∧ n < 1000) ∧ Q (.bl (s.so ns)) H
end K22

namespace K22
open PySem L2
local macro_rules | `(tactic| wtm_at "h") => `(tactic| first | assumption | exact upd_same)
local macro_rules | `(tactic| wtm_at "c") => `(tactic| first | exact p1018 | exact cmr (by decide) (by decide) | exact cm (by decide) (by decide) | exact cm (by omega) (by omega) | exact ⟨by decide, by decide⟩ | (dsimp only; omega) | omega | assumption)
local macro_rules | `(tactic| wtm_at "s") => `(tactic| first | refine ⟨_, rfl, ?_⟩ | refine ⟨_, _, rfl, rfl, ?_⟩ | refine ⟨rfl, ?_⟩ | refine ⟨_, _, _, _, rfl, rfl, SqT.of (by wtm_at "h"), rfl, ?_⟩ | refine ⟨_, _, _, _, rfl, rfl, SqL.of (by wtm_at "h"), rfl, ?_⟩ | refine And.intro (by wtm_at "c") ?_)
local macro_rules | `(tactic| wtm_at "ss") => `(tactic| repeat wtm_at "s")
/-! ### all values within the bounds -/
def rng (b : Box) : List Int := (List.range b.size).map fun k => b.lo + (k : Nat)
def longer (vs : List (List Int)) (b : Box) : List (List Int) := vs.flatMap fun v => (rng b).map fun n => v ++ [n]
def allv (bs : List Box) : List (List Int) := bs.foldl longer [[]]
theorem rng_len (b : Box) : (rng b).length = b.size := by unfold rng; rw [List.length_map, List.length_range]
theorem longer_len (b : Box) : ∀ vs : List (List Int), (longer vs b).length = vs.length * b.size
  | [] => by simp [longer]
  | v :: r => by
    have := longer_len b r
    unfold longer at this ⊢
    rw [List.flatMap_cons, List.length_append, this, List.length_map, rng_len, List.length_cons, Nat.succ_mul]
    omega
/-- values, sayings as they stand -/
def ValAt (H : Hp) (v : V) (ns : List Int) : Prop := ∃ p, v = .ref p ∧ H p = some (.tup (ns.map V.int))
def SayAt (H : Hp) (v : V) (s : Say) : Prop := ∃ p, v = .ref p ∧ H p = some (.tup s.tup)
structure ValsAt (H : Hp) (pl : Addr) (us : List V) (vs : List (List Int)) : Prop where
  at_ : H pl = some (.lst us)
  each : All2 (ValAt H) us vs
structure SaysAt (H : Hp) (pl : Addr) (us : List V) (os : List Say) : Prop where
  at_ : H pl = some (.lst us)
  each : All2 (SayAt H) us os
theorem SayAt.same {H H' : Hp} {v : V} {b : Say} (h : SayAt H v b) (s : Same H H') : SayAt H' v b := by
  obtain ⟨p, rfl, hp⟩ := h
  exact ⟨p, rfl, s _ _ hp⟩
theorem SayAt.put {H : Hp} {l : Addr} {xs ys : List V} {v : V} {b : Say} (h : SayAt H v b) (hl : H l = some (.lst xs)) : SayAt (upd H l (.lst ys)) v b := by
  obtain ⟨p, rfl, hp⟩ := h
  exact ⟨p, rfl, by rw [upd_ne (ne_of hp hl (fun z => nomatch z))]; exact hp⟩
theorem SaysAt.same {H H' : Hp} {pl : Addr} {us : List V} {vs : List Say} (h : SaysAt H pl us vs) (s : Same H H') : SaysAt H' pl us vs := ⟨s _ _ h.at_, h.each.mono fun _ _ z => z.same s⟩
theorem all2_app {α β : Type} {R : α → β → Prop} {xs us : List α} {ys vs : List β} (h : All2 R xs ys) (g : All2 R us vs) : All2 R (xs ++ us) (ys ++ vs) := by
  have hl := h.1
  have gl := g.1
  refine ⟨by simp [hl, gl], fun i a b ha hb => ?_⟩
  by_cases hi : i < xs.length
  · rw [List.getElem?_append_left hi] at ha
    rw [List.getElem?_append_left (by omega)] at hb
    exact h.2 i a b ha hb
  · rw [List.getElem?_append_right (by omega)] at ha
    rw [List.getElem?_append_right (by omega), ← hl] at hb
    exact g.2 _ a b ha hb
def spLengthened : Sp := fun vs H Q _ => ∃ (pl pbx : Addr) (us : List V) (vl : List (List Int)) (b : Box), vs = [.ref pl, .ref pbx] ∧ ValsAt H pl us vl ∧ H pbx = some (.tup b.tup) ∧ b.Ok ∧ vl.length * b.size ≤ 400 ∧ (∀ v ∈ vl, v.length ≤ 1000) ∧
  ∀ (p : Addr) (us' : List V) (H' : Hp), H p = none → Same H H' → ValsAt H' p us' (longer vl b) → Q (.ref p) H'
end K22

namespace K22
open PySem L2
local macro_rules | `(tactic| wtm_at "h") => `(tactic| first | assumption | exact upd_same)
local macro_rules | `(tactic| wtm_at "c") => `(tactic| first | exact p1018 | exact cmr (by decide) (by decide) | exact cm (by decide) (by decide) | exact cm (by omega) (by omega) | exact ⟨by decide, by decide⟩ | (dsimp only; omega) | omega | assumption)
local macro_rules | `(tactic| wtm_at "s") => `(tactic| first | refine ⟨_, rfl, ?_⟩ | refine ⟨_, _, rfl, rfl, ?_⟩ | refine ⟨rfl, ?_⟩ | refine ⟨_, _, _, _, rfl, rfl, SqT.of (by wtm_at "h"), rfl, ?_⟩ | refine ⟨_, _, _, _, rfl, rfl, SqL.of (by wtm_at "h"), rfl, ?_⟩ | refine And.intro (by wtm_at "c") ?_)
local macro_rules | `(tactic| wtm_at "ss") => `(tactic| repeat wtm_at "s")
/-! ### lists of tuples that are made anew -/
structure TsAt {α : Type} (tp : α → List V) (H : Hp) (D : Addr) (us : List V) (xs : List α) : Prop where
  at_ : H D = some (.lst us)
  each : All2 (fun v x => ∃ q, v = .ref q ∧ H q = some (.tup (tp x))) us xs
section
variable {α : Type} {tp : α → List V} {H H' : Hp} {D E : Addr} {us ys : List V} {xs zs : List α}
theorem TsAt.nil : TsAt tp (upd H D (.lst [])) D [] [] := ⟨upd_same, All2.nil⟩
theorem TsAt.same (h : TsAt tp H D us xs) (s : Same H H') : TsAt tp H' D us xs := ⟨s _ _ h.at_, h.each.mono fun _ _ ⟨q, e, hq⟩ => ⟨q, e, s _ _ hq⟩⟩
theorem TsAt.each_put {o : List V} (h : TsAt tp H E ys zs) (hD : H D = some (.lst us)) : All2 (fun v x => ∃ q, v = .ref q ∧ (upd H D (.lst o)) q = some (.tup (tp x))) ys zs :=
  h.each.mono fun _ _ ⟨q, e, hq⟩ => ⟨q, e, by rw [upd_ne (ne_of hq hD (fun z => nomatch z))]; exact hq⟩
theorem TsAt.push {t : Addr} {x : α} (h : TsAt tp H D us xs) (ht : H t = none) : TsAt tp (upd (upd H t (.tup (tp x))) D (.lst (us ++ [.ref t]))) D (us ++ [.ref t]) (xs ++ [x]) := by
  have s := Same.new ht (.tup (tp x))
  have h1 := h.same s
  refine ⟨upd_same, (h1.each_put h1.at_).snoc ⟨t, rfl, ?_⟩⟩
  rw [upd_ne (ne_of_none h.at_ ht).symm]
  exact upd_same
theorem TsAt.ext (h : TsAt tp H D us xs) (g : TsAt tp H E ys zs) : TsAt tp (upd H D (.lst (us ++ ys))) D (us ++ ys) (xs ++ zs) := ⟨upd_same, all2_app (h.each_put h.at_) (g.each_put h.at_)⟩
theorem TsAt.says {os : List Say} (h : TsAt Say.tup H D us os) : SaysAt H D us os := ⟨h.at_, h.each⟩
end
def ir (lo : Int) (n : Nat) : List Int := (List.range n).map fun i => lo + ((i : Nat) : Int)
theorem ir_len (lo : Int) (n : Nat) : (ir lo n).length = n := by unfold ir; rw [List.length_map, List.length_range]
theorem ir_succ (lo : Int) (n : Nat) : ir lo (n + 1) = ir lo n ++ [lo + ((n : Nat) : Int)] := by
  unfold ir
  rw [List.range_succ, List.map_append]
  rfl
theorem ir_mem {lo : Int} {n : Nat} {k : Int} : k ∈ ir lo n ↔ lo ≤ k ∧ k < lo + n := by
  unfold ir
  rw [List.mem_map]
  constructor
  · rintro ⟨i, hi, rfl⟩
    have := List.mem_range.mp hi
    omega
  · rintro ⟨h1, h2⟩
    exact ⟨(k - lo).toNat, List.mem_range.mpr (by omega), by omega⟩
theorem tt_yes {σ : St} {H : Hp} {P1 P2 : Hp → Prop} (h : P1 H) : tTrue σ H (fun b H4 => if b = true then P1 H4 else P2 H4) := by
  show if true = true then P1 H else P2 H
  exact iteT h
/-- [tuple for k in range(..) if ..] -/
theorem lcr_ts {α : Type} (tp : α → List V) {lo : Int} {n : Nat} {D : Addr} {H1 : Hp} {tt : TT} {te : TE} {rest : St} {Q : VK} (g : Int → Option α) (hD : H1 D = none) (hn : n ≤ 1000)
    (hs : ∀ (k : Int) (H : Hp) (K1 : VK) (K2 : Hp → Prop), lo ≤ k → k < lo + n → Same H1 H → (match g k with | some x => ∀ p, H p = none → K1 (.ref p) (upd H p (.tup (tp x))) | none => K2 H) → tt (some (.int k) :: rest) H fun b H4 => if b = true then te (some (.int k) :: rest) H4 K1 else K2 H4)
    (hd : ∀ (ys : List V) (H' : Hp), TsAt tp H' D ys ((ir lo n).filterMap g) → Same H1 H' → Q (.ref D) H') : LcW (Itr lo n) D (gName 0) tt te Q (none :: rest) (upd H1 D (.lst [])) := by
  refine lc_range (fun i ys σ H' => (∃ c0 : Option V, σ = c0 :: rest) ∧ TsAt tp H' D ys ((ir lo i).filterMap g) ∧ Same H1 H' ∧ ys.length ≤ i) ⟨⟨none, rfl⟩, TsAt.nil, Same.new hD _, Nat.le_refl _⟩ ?_ ?_
  · rintro i ys σ H' hi ⟨⟨c0, rfl⟩, T, e', hl⟩
    show tt (some (.int (lo + (i : Int))) :: rest) H' _
    refine hs (lo + (i : Int)) H' _ (fun H4 => (∃ c0 : Option V, (some (V.int (lo + (i : Int))) :: rest) = c0 :: rest) ∧ TsAt tp H4 D ys ((ir lo (i + 1)).filterMap g) ∧ Same H1 H4 ∧ ys.length ≤ i + 1) (by omega) (by omega) e' ?_
    have es : (ir lo (i + 1)).filterMap g = (ir lo i).filterMap g ++ (match g (lo + (i : Int)) with | some x => [x] | none => []) := by
      rw [ir_succ, List.filterMap_append]
      congr 1
      cases hg' : g (lo + (i : Int)) <;> simp [List.filterMap_cons, hg']
    cases hg : g (lo + (i : Int)) with
    | some x =>
      rw [hg] at es
      intro p hp
      have s2 := Same.new hp (.tup (tp x))
      refine ⟨s2 _ _ T.at_, small1000 (by omega), ⟨_, rfl⟩, ?_, fun c u z => ?_, by rw [List.length_append, List.length_singleton]; omega⟩
      · rw [es]
        exact T.push hp
      · rw [upd_ne (ne_of_none z hD)]
        exact s2 _ _ (e' _ _ z)
    | none =>
      rw [hg, List.append_nil] at es
      exact ⟨⟨_, rfl⟩, by rw [es]; exact T, e', by omega⟩
  · rintro ys σ H' ⟨_, T, e', _⟩
    exact hd ys H' T e'
end K22

namespace K22
open PySem L2
local macro_rules | `(tactic| wtm_at "h") => `(tactic| first | assumption | exact upd_same)
local macro_rules | `(tactic| wtm_at "c") => `(tactic| first | exact p1018 | exact cmr (by decide) (by decide) | exact cm (by decide) (by decide) | exact cm (by omega) (by omega) | exact ⟨by decide, by decide⟩ | (dsimp only; omega) | omega | assumption)
local macro_rules | `(tactic| wtm_at "s") => `(tactic| first | refine ⟨_, rfl, ?_⟩ | refine ⟨_, _, rfl, rfl, ?_⟩ | refine ⟨rfl, ?_⟩ | refine ⟨_, _, _, _, rfl, rfl, SqT.of (by wtm_at "h"), rfl, ?_⟩ | refine ⟨_, _, _, _, rfl, rfl, SqL.of (by wtm_at "h"), rfl, ?_⟩ | refine And.intro (by wtm_at "c") ?_)
local macro_rules | `(tactic| wtm_at "ss") => `(tactic| repeat wtm_at "s")
/-! ### the sayings, form by form -/
/-- for each box, by its place -/
def fl {α : Type} (F : Nat → List α) (n : Nat) : List α := (List.range n).flatMap F
theorem fl_succ {α : Type} (F : Nat → List α) (n : Nat) : fl F (n + 1) = fl F n ++ F n := by
  unfold fl
  rw [List.range_succ, List.flatMap_append]
  simp
def wnumF (mk : Nat → Int → Say) (ab be : Int) (bs : List Box) (i : Nat) : List Say := (bs[i]?).elim [] fun b => (ir (b.lo + ab) (b.hi - be + 1 - (b.lo + ab)).toNat).map (mk i)
def wnum (mk : Nat → Int → Say) (ab be : Int) (bs : List Box) : List Say := fl (wnumF mk ab be bs) bs.length
def restF (i : Nat) : List Say := (ir 2 5).flatMap fun m => (ir 0 m.toNat).map fun r => Say.rest i m r
def restL (bs : List Box) : List Say := fl restF bs.length
def eithF (bs : List Box) (i : Nat) : List Say := (bs[i]?).elim [] fun b => (ir b.lo (b.hi - b.lo).toNat).flatMap fun n => (ir (n + 1) (b.hi + 1 - (n + 1)).toNat).map fun k => Say.eith i n k
def eithL (bs : List Box) : List Say := fl (eithF bs) bs.length
def ptup (x : Nat × Nat) : List V := [.int (x.1 : Nat), .int (x.2 : Nat)]
def riseF (n a : Nat) : List (Nat × Nat) := (ir ((a : Int) + 1) ((n : Int) - ((a : Int) + 1)).toNat).map fun b => (a, b.toNat)
def rise (n : Nat) : List (Nat × Nat) := fl (riseF n) n
def unlF (n a : Nat) : List (Nat × Nat) := (ir 0 n).filterMap fun b => if b = (a : Int) then none else some (a, b.toNat)
def unl (n : Nat) : List (Nat × Nat) := fl (unlF n) n
def spWithNumber : Sp := fun vs H Q _ => ∃ (f : Str) (mk : Nat → Int → Say) (pb : Addr) (ab be : Int) (us : List V) (bs : List Box), vs = [.str f, .ref pb, .int ab, .int be] ∧ (∀ i n, (mk i n).tup = [.str f, .int (i : Nat), .int n]) ∧ BoxesAt H pb us bs ∧ (∀ b ∈ bs, b.Ok) ∧ bs.length ≤ 4 ∧ 0 ≤ ab ∧ ab ≤ 1 ∧ 0 ≤ be ∧ be ≤ 1 ∧
  ∀ (p : Addr) (us' : List V) (H' : Hp), H p = none → Same H H' → SaysAt H' p us' (wnum mk ab be bs) → us'.length ≤ 80 → Q (.ref p) H'
def spBx (L : List Box → List Say) (n : Nat) : Sp := fun vs H Q _ => ∃ (pb : Addr) (us : List V) (bs : List Box), vs = [.ref pb] ∧ BoxesAt H pb us bs ∧ (∀ b ∈ bs, b.Ok) ∧ bs.length ≤ 4 ∧
  ∀ (p : Addr) (us' : List V) (H' : Hp), H p = none → Same H H' → SaysAt H' p us' (L bs) → us'.length ≤ n → Q (.ref p) H'
def spPrs (L : Nat → List (Nat × Nat)) : Sp := fun vs H Q _ => ∃ (pb : Addr) (us : List V), vs = [.ref pb] ∧ H pb = some (.lst us) ∧ us.length ≤ 4 ∧
  ∀ (p : Addr) (us' : List V) (H' : Hp), H p = none → Same H H' → TsAt ptup H' p us' (L us.length) → us'.length ≤ 16 → Q (.ref p) H'
section
variable {P : Program} {w : World} {K : PySem.W.Frag} {mg : Str → Option Value} {base : Heap}
theorem scWithNumber : FnScope ["form", "boxes", "above", "below", "told", "place", "box", "n"] ["form", "boxes", "above", "below"] (defScope sPWithNumber) := ⟨rfl, rfl, rfl, by decide +kernel, rfl, by decide +kernel, by decide +kernel⟩
theorem ok_withNumber (h : Has K mg "with_number" sPWithNumber ["form", "boxes", "above", "below"]) (B : Blt mg) : Cal P w K mg base 1 "with_number" ["form", "boxes", "above", "below"] spWithNumber := by
  refine h.cal scWithNumber (fun vs H Q E h => ?_) (fun f cdv A outer s H vs Q E hr h => ?_)
  · obtain ⟨f, mk, pb, ab, be, us, bs, rfl, _⟩ := h
    rfl
  obtain ⟨fm, mk, pb, ab, be, us, bs, rfl, hmk, X, ok, l4, a0, a1, e0, e1, q⟩ := h
  refine ⟨_, (pss_cons (ps_set (i := 4) scWithNumber.nd rfl (Or.inl rfl) (pe_lst pa_nil))
    (pss_cons (ps_for PassesOwn.never rfl (pi_enum rfl B.enumerate (pa_cons (pv 1) pa_nil)) (pg_tup rfl (pgs_cons (pg_name (i := 5) scWithNumber.nd rfl (Or.inl rfl)) (pgs_cons (pg_name (i := 6) scWithNumber.nd rfl (Or.inl rfl)) pgs_nil))) (pss_one (ps_for PassesOwn.never rfl (pi_range2 rfl B.range (pa_cons (pe_op op_add (pe_ix ix_tup (pv 6) pe_int (fun _ _ => rfl)) (pv 2)) (pa_cons (pe_op op_add (pe_op op_sub (pe_ix ix_tup (pv 6) pe_int (fun _ _ => rfl)) (pv 3)) pe_int) pa_nil))) (pg_name (i := 7) scWithNumber.nd rfl (Or.inl rfl)) (pss_one (ps_expr (pe_bm PySem.F.plainAttrs_list PySem.F.slot_list_append PySem.F.type_list_append mt_append (pv 4) (pa_cons (pe_tup (pa_cons (pv 0) (pa_cons (pv 5) (pa_cons (pv 7) pa_nil)))) pa_nil)))))))
    (pss_one (ps_ret (pv 4))))), ?_⟩
  refine ⟨(by show 0 ≤ sizeLine; decide), fun pt hpt => ?_⟩
  have ul := X.each.1
  refine ⟨_, rfl, pb, rfl, ⟨_, Same.new hpt _ _ _ X.at_⟩, for_enum (a := pb) (xs := us) (fun i σ H' => ∃ (ts : List V) (c5 c6 c7 : Option V), σ = [some (.str fm), some (.ref pb), some (.int ab), some (.int be), some (.ref pt), c5, c6, c7] ∧ TsAt Say.tup H' pt ts (fl (wnumF mk ab be bs) i) ∧ ts.length ≤ 20 * i ∧ Same H H')
    ⟨[], none, none, none, rfl, TsAt.nil, Nat.le_refl _, Same.new hpt _⟩ (fun i σ H' _ ⟨_, _, _, _, _, _, _, e⟩ => e _ _ X.at_) ?_ ?_⟩
  · rintro i x σ H' T hi ⟨ts, c5, c6, c7, rfl, T1, tl, e'⟩ hT
    obtain ⟨b, hb, p, rfl, hp⟩ := X.each.at hi
    have bok := ok b (List.mem_of_getElem? hb)
    have k1 := bok.fl
    have k2 := bok.fh
    have k3 := bok.lo
    have k4 := bok.hi
    have k5 := bok.w
    have il : i < 4 := by have := (List.getElem?_eq_some_iff.mp hb).1; omega
    have sT := Same.new hT (.tup [.int (i : Nat), .ref p])
    have T2 := T1.same sT
    have eT := e'.trans sT
    refine ⟨T, _, rfl, SqT.of upd_same, rfl, _, _, rfl, _, _, rfl, rfl, ?_⟩
    generalize upd H' T (.tup [.int (i : Nat), .ref p]) = H2 at *
    refine ⟨_, rfl, p, _, _, _, rfl, rfl, SqT.of (eT _ _ hp), rfl, _, rfl, _, _, rfl, rfl, _, rfl, p, _, _, _, rfl, rfl, SqT.of (eT _ _ hp), rfl, _, rfl, _, _, rfl, rfl, _, _, rfl, rfl, _, _, rfl, ⟨by omega, by omega, by omega, by omega⟩, ?_⟩
    refine for_range (lo := b.lo + ab) (n := (b.hi - be + 1 - (b.lo + ab)).toNat) (fun j σ H3 => ∃ (ts : List V) (c7 : Option V), σ = [some (.str fm), some (.ref pb), some (.int ab), some (.int be), some (.ref pt), some (.int (i : Nat)), some (.ref p), c7] ∧ TsAt Say.tup H3 pt ts (fl (wnumF mk ab be bs) i ++ (ir (b.lo + ab) j).map (mk i)) ∧ ts.length ≤ 20 * i + j ∧ Same H H3)
      ⟨ts, c7, rfl, by rw [show (ir (b.lo + ab) 0).map (mk i) = [] from rfl, List.append_nil]; exact T2, tl, eT⟩ ?_ ?_
    · rintro j σ H3 hj ⟨ts, c7, rfl, T3, tl3, e3⟩
      refine ⟨_, rfl, .inl ⟨rfl, _, SqL.of T3.at_⟩, _, rfl, _, rfl, _, rfl, (by show 3 ≤ sizeLine; decide), fun t ht => ?_⟩
      have s4 := Same.new ht (.tup [.str fm, .int (i : Nat), .int (b.lo + ab + (j : Int))])
      refine ⟨pt, _, _, rfl, rfl, s4 _ _ T3.at_, small1000 (by omega), ?_⟩
      refine ⟨ts ++ [.ref t], _, rfl, ?_, by rw [List.length_append, List.length_singleton]; omega, fun c u z => ?_⟩
      · rw [ir_succ, List.map_append, ← List.append_assoc]
        have := T3.push (x := mk i (b.lo + ab + (j : Int))) ht
        rw [hmk] at this
        exact this
      · rw [upd_ne (ne_of_none z hpt)]
        exact s4 _ _ (e3 _ _ z)
    · rintro σ H3 ⟨ts, c7, rfl, T3, tl3, e3⟩
      refine ⟨ts, _, _, _, rfl, ?_, by omega, e3⟩
      rw [fl_succ]
      have : wnumF mk ab be bs i = (ir (b.lo + ab) (b.hi - be + 1 - (b.lo + ab)).toNat).map (mk i) := by
        unfold wnumF
        rw [hb]
        rfl
      rw [this]
      exact T3
  · rintro σ H' ⟨ts, c5, c6, c7, rfl, T1, tl, e'⟩
    rw [ul] at T1 tl
    exact ⟨_, rfl, q pt ts H' hpt e' T1.says (by omega)⟩
theorem scRests : FnScope ["boxes", "told", "place", "m"] ["boxes"] (defScope sPRests) := ⟨rfl, rfl, rfl, by decide +kernel, rfl, by decide +kernel, by decide +kernel⟩
theorem ok_rests (h : Has K mg "rests" sPRests ["boxes"]) (B : Blt mg) (gl : Glb K mg) : Cal P w K mg base 1 "rests" ["boxes"] (spBx restL 120) := by
  refine h.cal scRests (fun vs H Q E h => ?_) (fun f cdv A outer s H vs Q E hr h => ?_)
  · obtain ⟨pb, us, bs, rfl, _⟩ := h
    rfl
  obtain ⟨pb, us, bs, rfl, X, ok, l4, q⟩ := h
  obtain ⟨tk1, hm1⟩ := gl.LEAST_DIVISOR
  obtain ⟨tk2, hm2⟩ := gl.MOST_DIVISOR
  refine ⟨_, (pss_cons (ps_set (i := 1) scRests.nd rfl (Or.inl rfl) (pe_lst pa_nil))
    (pss_cons (ps_for PassesOwn.never rfl (pi_range1 rfl B.range (pa_cons (pe_callB call_len_seq rfl B.len bt_len (pa_cons (pv 0) pa_nil)) pa_nil)) (pg_name (i := 2) scRests.nd rfl (Or.inr rfl)) (pss_one (ps_for PassesOwn.never rfl (pi_range2 rfl B.range (pa_cons (pe_glob (v := .int 2) rfl hm1 ⟨_, rfl⟩) (pa_cons (pe_op op_add (pe_glob (v := .int 6) rfl hm2 ⟨_, rfl⟩) pe_int) pa_nil))) (pg_name (i := 3) scRests.nd rfl (Or.inr rfl)) (pss_one (ps_expr (pe_bm PySem.F.plainAttrs_list PySem.F.slot_list_extend PySem.F.type_list_extend mt_extend (pv 1) (pa_cons (pe_lc (defScope sPRests) ["boxes", "told", "place", "m"] (N := ["r", "place", "m"]) (ix := [none, some 2, some 3]) rfl ⟨rfl, by decide +kernel, by decide +kernel, by decide +kernel, rfl, by decide +kernel⟩ (pi_range1 rfl B.range (pa_cons (pv 3) pa_nil)) (fun _ _ _ _ => pg_name (i := 0) (show (["r", "place", "m"] : List Str).Nodup by decide +kernel) rfl (Or.inl rfl)) (fun _ _ _ _ => pts_nil) (fun _ _ _ _ => (pe_tup (pa_cons pe_str (pa_cons (pv 1) (pa_cons (pv 2) (pa_cons (pv 0) pa_nil))))))) pa_nil)))))))
    (pss_one (ps_ret (pv 1))))), ?_⟩
  refine ⟨(by show 0 ≤ sizeLine; decide), fun pt hpt => ?_⟩
  have ul := X.each.1
  refine ⟨_, rfl, pb, _, rfl, .inl (SqL.of (Same.new hpt _ _ _ X.at_)), _, rfl, by omega, by omega, ?_⟩
  refine for_range (lo := 0) (n := ((us.length : Nat) : Int).toNat) (fun i σ H' => ∃ (ts : List V) (c2 c3 : Option V), σ = [some (.ref pb), some (.ref pt), c2, c3] ∧ TsAt Say.tup H' pt ts (fl restF i) ∧ ts.length ≤ 30 * i ∧ Same H H')
    ⟨[], none, none, rfl, TsAt.nil, Nat.le_refl _, Same.new hpt _⟩ ?_ ?_
  · rintro i σ H' hi ⟨ts, c2, c3, rfl, T1, tl, e'⟩
    have e0 : (0 + (i : Int)) = ((i : Nat) : Int) := by omega
    rw [e0]
    have il : i < 4 := by omega
    refine ⟨_, _, rfl, rfl, _, _, rfl, ⟨by decide, by decide, by decide, by decide⟩, ?_⟩
    refine for_range (lo := 2) (n := ((6 : Int) + 1 - 2).toNat) (fun j σ H3 => ∃ (ts : List V) (c3 : Option V), σ = [some (.ref pb), some (.ref pt), some (.int (i : Nat)), c3] ∧ TsAt Say.tup H3 pt ts (fl restF i ++ (ir 2 j).flatMap fun m => (ir 0 m.toNat).map fun r => Say.rest i m r) ∧ ts.length ≤ 30 * i + 6 * j ∧ Same H H3)
      ⟨ts, c3, rfl, by rw [show ((ir 2 0).flatMap fun m => (ir 0 m.toNat).map fun r => Say.rest i m r) = [] from rfl, List.append_nil]; exact T1, tl, e'⟩ ?_ ?_
    · rintro j σ H3 hj ⟨ts, c3, rfl, T3, tl3, e3⟩
      have hj5 : j < 5 := hj
      refine ⟨_, rfl, .inl ⟨rfl, _, SqL.of T3.at_⟩, _, rfl, _, rfl, by omega, by omega, fun D hD => ?_⟩
      refine lcr_ts Say.tup (fun r => some (Say.rest i (2 + (j : Int)) r)) hD (by omega) (fun k H4 K1 K2 _ _ _ z => ?_) fun ys H4 T4 e4 => ?_
      · exact tt_yes ⟨_, rfl, _, rfl, _, rfl, (by show 4 ≤ sizeLine; decide), z⟩
      rw [show (fun r => some (Say.rest i (2 + (j : Int)) r)) = some ∘ (fun r => Say.rest i (2 + (j : Int)) r) from rfl, List.filterMap_eq_map] at T4
      have T5 := T3.same e4
      have yl : ys.length ≤ 6 := by
        rw [T4.each.1, List.length_map, ir_len]
        omega
      refine ⟨pt, D, ts, ys, rfl, rfl, T5.at_, T4.at_, small (by omega), ?_⟩
      refine ⟨ts ++ ys, _, rfl, ?_, by rw [List.length_append]; omega, fun c u z => ?_⟩
      · rw [ir_succ, List.flatMap_append, ← List.append_assoc]
        simpa using T5.ext T4
      · rw [upd_ne (ne_of_none z hpt)]
        exact e4 _ _ (e3 _ _ z)
    · rintro σ H3 ⟨ts, c3, rfl, T3, tl3, e3⟩
      refine ⟨ts, _, _, rfl, ?_, ?_, e3⟩
      · rw [fl_succ]
        exact T3
      · have : ((6 : Int) + 1 - 2).toNat = 5 := rfl
        rw [this] at tl3
        omega
  · rintro σ H' ⟨ts, c2, c3, rfl, T1, tl, e'⟩
    have e : ((us.length : Nat) : Int).toNat = bs.length := by omega
    rw [e] at T1 tl
    exact ⟨_, rfl, q pt ts H' hpt e' T1.says (by omega)⟩
theorem scEithers : FnScope ["boxes", "told", "place", "box", "n"] ["boxes"] (defScope sPEithers) := ⟨rfl, rfl, rfl, by decide +kernel, rfl, by decide +kernel, by decide +kernel⟩
theorem ok_eithers (h : Has K mg "eithers" sPEithers ["boxes"]) (B : Blt mg) : Cal P w K mg base 1 "eithers" ["boxes"] (spBx eithL 1600) := by
  refine h.cal scEithers (fun vs H Q E h => ?_) (fun f cdv A outer s H vs Q E hr h => ?_)
  · obtain ⟨pb, us, bs, rfl, _⟩ := h
    rfl
  obtain ⟨pb, us, bs, rfl, X, ok, l4, q⟩ := h
  refine ⟨_, (pss_cons (ps_set (i := 1) scEithers.nd rfl (Or.inl rfl) (pe_lst pa_nil))
    (pss_cons (ps_for PassesOwn.never rfl (pi_enum rfl B.enumerate (pa_cons (pv 0) pa_nil)) (pg_tup rfl (pgs_cons (pg_name (i := 2) scEithers.nd rfl (Or.inr rfl)) (pgs_cons (pg_name (i := 3) scEithers.nd rfl (Or.inl rfl)) pgs_nil))) (pss_one (ps_for PassesOwn.never rfl (pi_range2 rfl B.range (pa_cons (pe_ix ix_tup (pv 3) pe_int (fun _ _ => rfl)) (pa_cons (pe_ix ix_tup (pv 3) pe_int (fun _ _ => rfl)) pa_nil))) (pg_name (i := 4) scEithers.nd rfl (Or.inr rfl)) (pss_one (ps_expr (pe_bm PySem.F.plainAttrs_list PySem.F.slot_list_extend PySem.F.type_list_extend mt_extend (pv 1) (pa_cons (pe_lc (defScope sPEithers) ["boxes", "told", "place", "box", "n"] (N := ["k", "place", "n"]) (ix := [none, some 2, some 4]) rfl ⟨rfl, by decide +kernel, by decide +kernel, by decide +kernel, rfl, by decide +kernel⟩ (pi_range2 rfl B.range (pa_cons (pe_op op_add (pv 4) pe_int) (pa_cons (pe_op op_add (pe_ix ix_tup (pv 3) pe_int (fun _ _ => rfl)) pe_int) pa_nil))) (fun _ _ _ _ => pg_name (i := 0) (show (["k", "place", "n"] : List Str).Nodup by decide +kernel) rfl (Or.inl rfl)) (fun _ _ _ _ => pts_nil) (fun _ _ _ _ => (pe_tup (pa_cons pe_str (pa_cons (pv 1) (pa_cons (pv 2) (pa_cons (pv 0) pa_nil))))))) pa_nil)))))))
    (pss_one (ps_ret (pv 1))))), ?_⟩
  refine ⟨(by show 0 ≤ sizeLine; decide), fun pt hpt => ?_⟩
  have ul := X.each.1
  refine ⟨_, rfl, pb, rfl, ⟨_, Same.new hpt _ _ _ X.at_⟩, for_enum (a := pb) (xs := us) (fun i σ H' => ∃ (ts : List V) (c2 c3 c4 : Option V), σ = [some (.ref pb), some (.ref pt), c2, c3, c4] ∧ TsAt Say.tup H' pt ts (fl (eithF bs) i) ∧ ts.length ≤ 400 * i ∧ Same H H')
    ⟨[], none, none, none, rfl, TsAt.nil, Nat.le_refl _, Same.new hpt _⟩ (fun i σ H' _ ⟨_, _, _, _, _, _, _, e⟩ => e _ _ X.at_) ?_ ?_⟩
  · rintro i x σ H' T hi ⟨ts, c2, c3, c4, rfl, T1, tl, e'⟩ hT
    obtain ⟨b, hb, p, rfl, hp⟩ := X.each.at hi
    have bok := ok b (List.mem_of_getElem? hb)
    have k1 := bok.fl
    have k2 := bok.fh
    have k3 := bok.lo
    have k4 := bok.hi
    have k5 := bok.w
    have il : i < 4 := by have := (List.getElem?_eq_some_iff.mp hb).1; omega
    have sT := Same.new hT (.tup [.int (i : Nat), .ref p])
    have T2 := T1.same sT
    have eT := e'.trans sT
    refine ⟨T, _, rfl, SqT.of upd_same, rfl, _, _, rfl, _, _, rfl, rfl, ?_⟩
    generalize upd H' T (.tup [.int (i : Nat), .ref p]) = H2 at *
    refine ⟨_, rfl, p, _, _, _, rfl, rfl, SqT.of (eT _ _ hp), rfl, _, rfl, p, _, _, _, rfl, rfl, SqT.of (eT _ _ hp), rfl, _, _, rfl, ⟨by omega, by omega, by omega, by omega⟩, ?_⟩
    refine for_range (lo := b.lo) (n := (b.hi - b.lo).toNat) (fun j σ H3 => ∃ (ts : List V) (c4 : Option V), σ = [some (.ref pb), some (.ref pt), some (.int (i : Nat)), some (.ref p), c4] ∧ TsAt Say.tup H3 pt ts (fl (eithF bs) i ++ (ir b.lo j).flatMap fun n => (ir (n + 1) (b.hi + 1 - (n + 1)).toNat).map fun k => Say.eith i n k) ∧ ts.length ≤ 400 * i + 20 * j ∧ Same H H3)
      ⟨ts, c4, rfl, by rw [show ((ir b.lo 0).flatMap fun n => (ir (n + 1) (b.hi + 1 - (n + 1)).toNat).map fun k => Say.eith i n k) = [] from rfl, List.append_nil]; exact T2, tl, eT⟩ ?_ ?_
    · rintro j σ H3 hj ⟨ts, c4, rfl, T3, tl3, e3⟩
      refine ⟨_, rfl, .inl ⟨rfl, _, SqL.of T3.at_⟩, _, rfl, _, _, rfl, rfl, _, rfl, p, _, _, _, rfl, rfl, SqT.of (e3 _ _ hp), rfl, _, _, rfl, rfl, _, _, rfl, ⟨by omega, by omega, by omega, by omega⟩, fun D hD => ?_⟩
      refine lcr_ts Say.tup (lo := b.lo + (j : Int) + 1) (n := (b.hi + 1 - (b.lo + (j : Int) + 1)).toNat) (fun k => some (Say.eith i (b.lo + (j : Int)) k)) hD (by omega) (fun k H4 K1 K2 _ _ _ z => ?_) fun ys H4 T4 e4 => ?_
      · exact tt_yes ⟨_, rfl, _, rfl, _, rfl, (by show 4 ≤ sizeLine; decide), z⟩
      rw [show (fun k => some (Say.eith i (b.lo + (j : Int)) k)) = some ∘ (fun k => Say.eith i (b.lo + (j : Int)) k) from rfl, List.filterMap_eq_map] at T4
      have T5 := T3.same e4
      have yl : ys.length ≤ 20 := by
        rw [T4.each.1, List.length_map, ir_len]
        omega
      refine ⟨pt, D, ts, ys, rfl, rfl, T5.at_, T4.at_, sz' (by omega), ?_⟩
      refine ⟨ts ++ ys, _, rfl, ?_, by rw [List.length_append]; omega, fun c u z => ?_⟩
      · rw [ir_succ, List.flatMap_append, ← List.append_assoc]
        simpa using T5.ext T4
      · rw [upd_ne (ne_of_none z hpt)]
        exact e4 _ _ (e3 _ _ z)
    · rintro σ H3 ⟨ts, c4, rfl, T3, tl3, e3⟩
      refine ⟨ts, _, _, _, rfl, ?_, by omega, e3⟩
      rw [fl_succ]
      have : eithF bs i = (ir b.lo (b.hi - b.lo).toNat).flatMap fun n => (ir (n + 1) (b.hi + 1 - (n + 1)).toNat).map fun k => Say.eith i n k := by
        unfold eithF
        rw [hb]
        rfl
      rw [this]
      exact T3
  · rintro σ H' ⟨ts, c2, c3, c4, rfl, T1, tl, e'⟩
    rw [ul] at T1 tl
    exact ⟨_, rfl, q pt ts H' hpt e' T1.says (by omega)⟩
theorem scRising : FnScope ["boxes", "pairs", "a"] ["boxes"] (defScope sPRisingPairs) := ⟨rfl, rfl, rfl, by decide +kernel, rfl, by decide +kernel, by decide +kernel⟩
theorem ok_rising (h : Has K mg "rising_pairs" sPRisingPairs ["boxes"]) (B : Blt mg) : Cal P w K mg base 1 "rising_pairs" ["boxes"] (spPrs rise) := by
  refine h.cal scRising (fun vs H Q E h => ?_) (fun f cdv A outer s H vs Q E hr h => ?_)
  · obtain ⟨pb, us, rfl, _⟩ := h
    rfl
  obtain ⟨pb, us, rfl, X, l4, q⟩ := h
  refine ⟨_, (pss_cons (ps_set (i := 1) scRising.nd rfl (Or.inl rfl) (pe_lst pa_nil))
    (pss_cons (ps_for PassesOwn.never rfl (pi_range1 rfl B.range (pa_cons (pe_callB call_len_seq rfl B.len bt_len (pa_cons (pv 0) pa_nil)) pa_nil)) (pg_name (i := 2) scRising.nd rfl (Or.inr rfl)) (pss_one (ps_expr (pe_bm PySem.F.plainAttrs_list PySem.F.slot_list_extend PySem.F.type_list_extend mt_extend (pv 1) (pa_cons (pe_lc (defScope sPRisingPairs) ["boxes", "pairs", "a"] (N := ["b", "a"]) (ix := [none, some 2]) rfl ⟨rfl, by decide +kernel, by decide +kernel, by decide +kernel, rfl, by decide +kernel⟩ (pi_range2 rfl B.range (pa_cons (pe_op op_add (pv 2) pe_int) (pa_cons (pe_callB call_len_seq rfl B.len bt_len (pa_cons (pv 0) pa_nil)) pa_nil))) (fun _ _ _ _ => pg_name (i := 0) (show (["b", "a"] : List Str).Nodup by decide +kernel) rfl (Or.inl rfl)) (fun _ _ _ _ => pts_nil) (fun _ _ _ _ => (pe_tup (pa_cons (pv 1) (pa_cons (pv 0) pa_nil))))) pa_nil)))))
    (pss_one (ps_ret (pv 1))))), ?_⟩
  refine ⟨(by show 0 ≤ sizeLine; decide), fun pt hpt => ?_⟩
  refine ⟨_, rfl, pb, _, rfl, .inl (SqL.of (Same.new hpt _ _ _ X)), _, rfl, by omega, by omega, ?_⟩
  refine for_range (lo := 0) (n := ((us.length : Nat) : Int).toNat) (fun i σ H' => ∃ (ts : List V) (c2 : Option V), σ = [some (.ref pb), some (.ref pt), c2] ∧ TsAt ptup H' pt ts (fl (riseF us.length) i) ∧ ts.length ≤ 4 * i ∧ Same H H')
    ⟨[], none, rfl, TsAt.nil, Nat.le_refl _, Same.new hpt _⟩ ?_ ?_
  · rintro i σ H' hi ⟨ts, c2, rfl, T1, tl, e'⟩
    have e0 : (0 + (i : Int)) = ((i : Nat) : Int) := by omega
    rw [e0]
    refine ⟨_, rfl, .inl ⟨rfl, _, SqL.of T1.at_⟩, _, rfl, _, _, rfl, rfl, _, rfl, pb, _, rfl, .inl (SqL.of (e' _ _ X)), _, _, rfl, ⟨by omega, by omega, by omega, by omega⟩, fun D hD => ?_⟩
    refine lcr_ts ptup (lo := (i : Int) + 1) (n := ((us.length : Int) - ((i : Int) + 1)).toNat) (fun b => some (i, b.toNat)) hD (by omega) (fun k H4 K1 K2 k0 k1 _ z => ?_) fun ys H4 T4 e4 => ?_
    · have z' : ∀ p, H4 p = none → K1 (.ref p) (upd H4 p (.tup (ptup (i, k.toNat)))) := z
      have ek : ptup (i, k.toNat) = [.int (i : Nat), .int k] := by
        unfold ptup
        rw [show (((i, k.toNat).2 : Nat) : Int) = k from by show ((k.toNat : Nat) : Int) = k; omega]
      rw [ek] at z'
      exact tt_yes ⟨_, rfl, _, rfl, (by show 2 ≤ sizeLine; decide), z'⟩
    rw [show (fun b : Int => some (i, b.toNat)) = some ∘ (fun b : Int => (i, b.toNat)) from rfl, List.filterMap_eq_map] at T4
    have T5 := T1.same e4
    have yl : ys.length ≤ 4 := by
      rw [T4.each.1, List.length_map, ir_len]
      omega
    refine ⟨pt, D, ts, ys, rfl, rfl, T5.at_, T4.at_, small (by omega), ?_⟩
    refine ⟨ts ++ ys, _, rfl, ?_, by rw [List.length_append]; omega, fun c u z => ?_⟩
    · rw [fl_succ]
      exact T5.ext T4
    · rw [upd_ne (ne_of_none z hpt)]
      exact e4 _ _ (e' _ _ z)
  · rintro σ H' ⟨ts, c2, rfl, T1, tl, e'⟩
    rw [Int.toNat_natCast] at T1 tl
    exact ⟨_, rfl, q pt ts H' hpt e' T1 (by omega)⟩
theorem scUnlike : FnScope ["boxes", "pairs", "a"] ["boxes"] (defScope sPUnlikePairs) := ⟨rfl, rfl, rfl, by decide +kernel, rfl, by decide +kernel, by decide +kernel⟩
theorem ok_unlike (h : Has K mg "unlike_pairs" sPUnlikePairs ["boxes"]) (B : Blt mg) : Cal P w K mg base 1 "unlike_pairs" ["boxes"] (spPrs unl) := by
  refine h.cal scUnlike (fun vs H Q E h => ?_) (fun f cdv A outer s H vs Q E hr h => ?_)
  · obtain ⟨pb, us, rfl, _⟩ := h
    rfl
  obtain ⟨pb, us, rfl, X, l4, q⟩ := h
  refine ⟨_, (pss_cons (ps_set (i := 1) scUnlike.nd rfl (Or.inl rfl) (pe_lst pa_nil))
    (pss_cons (ps_for PassesOwn.never rfl (pi_range1 rfl B.range (pa_cons (pe_callB call_len_seq rfl B.len bt_len (pa_cons (pv 0) pa_nil)) pa_nil)) (pg_name (i := 2) scUnlike.nd rfl (Or.inr rfl)) (pss_one (ps_expr (pe_bm PySem.F.plainAttrs_list PySem.F.slot_list_extend PySem.F.type_list_extend mt_extend (pv 1) (pa_cons (pe_lc (defScope sPUnlikePairs) ["boxes", "pairs", "a"] (N := ["b", "a"]) (ix := [none, some 2]) rfl ⟨rfl, by decide +kernel, by decide +kernel, by decide +kernel, rfl, by decide +kernel⟩ (pi_range1 rfl B.range (pa_cons (pe_callB call_len_seq rfl B.len bt_len (pa_cons (pv 0) pa_nil)) pa_nil)) (fun _ _ _ _ => pg_name (i := 0) (show (["b", "a"] : List Str).Nodup by decide +kernel) rfl (Or.inl rfl)) (fun _ _ _ _ => (pts_one (pt_cmpR op_ne (pv 0) (pv 1) (nomark _)))) (fun _ _ _ _ => (pe_tup (pa_cons (pv 1) (pa_cons (pv 0) pa_nil))))) pa_nil)))))
    (pss_one (ps_ret (pv 1))))), ?_⟩
  refine ⟨(by show 0 ≤ sizeLine; decide), fun pt hpt => ?_⟩
  refine ⟨_, rfl, pb, _, rfl, .inl (SqL.of (Same.new hpt _ _ _ X)), _, rfl, by omega, by omega, ?_⟩
  refine for_range (lo := 0) (n := ((us.length : Nat) : Int).toNat) (fun i σ H' => ∃ (ts : List V) (c2 : Option V), σ = [some (.ref pb), some (.ref pt), c2] ∧ TsAt ptup H' pt ts (fl (unlF us.length) i) ∧ ts.length ≤ 4 * i ∧ Same H H')
    ⟨[], none, rfl, TsAt.nil, Nat.le_refl _, Same.new hpt _⟩ ?_ ?_
  · rintro i σ H' hi ⟨ts, c2, rfl, T1, tl, e'⟩
    have e0 : (0 + (i : Int)) = ((i : Nat) : Int) := by omega
    rw [e0]
    refine ⟨_, rfl, .inl ⟨rfl, _, SqL.of T1.at_⟩, _, rfl, pb, _, rfl, .inl (SqL.of (e' _ _ X)), _, rfl, by omega, by omega, fun D hD => ?_⟩
    refine lcr_ts ptup (lo := 0) (n := ((us.length : Nat) : Int).toNat) (fun b => if b = (i : Int) then none else some (i, b.toNat)) hD (by omega) (fun k H4 K1 K2 k0 k1 _ z => ?_) fun ys H4 T4 e4 => ?_
    · refine ⟨_, rfl, _, rfl, rfl, _, rfl, ?_⟩
      by_cases ek : k = (i : Int)
      · rw [if_pos ek] at z
        exact iteNS (by rw [ek]) z
      · rw [if_neg ek] at z
        have z' : ∀ p, H4 p = none → K1 (.ref p) (upd H4 p (.tup (ptup (i, k.toNat)))) := z
        have ek2 : ptup (i, k.toNat) = [.int (i : Nat), .int k] := by
          unfold ptup
          rw [show (((i, k.toNat).2 : Nat) : Int) = k from by show ((k.toNat : Nat) : Int) = k; omega]
        rw [ek2] at z'
        refine iteB (by rw [decide_eq_false (fun y => ek (by injection y))]; rfl) ?_
        exact ⟨_, rfl, _, rfl, (by show 2 ≤ sizeLine; decide), z'⟩
    have T5 := T1.same e4
    have yl : ys.length ≤ 4 := by
      rw [T4.each.1]
      refine Nat.le_trans (List.length_filterMap_le _ _) ?_
      rw [ir_len]
      omega
    refine ⟨pt, D, ts, ys, rfl, rfl, T5.at_, T4.at_, small (by omega), ?_⟩
    refine ⟨ts ++ ys, _, rfl, ?_, by rw [List.length_append]; omega, fun c u z => ?_⟩
    · rw [fl_succ]
      rw [Int.toNat_natCast] at T4
      exact T5.ext T4
    · rw [upd_ne (ne_of_none z hpt)]
      exact e4 _ _ (e' _ _ z)
  · rintro σ H' ⟨ts, c2, rfl, T1, tl, e'⟩
    rw [Int.toNat_natCast] at T1 tl
    exact ⟨_, rfl, q pt ts H' hpt e' T1 (by omega)⟩
end
end K22

namespace K22
open PySem L2
local macro_rules | `(tactic| wtm_at "h") => `(tactic| first | assumption | exact upd_same)
local macro_rules | `(tactic| wtm_at "c") => `(tactic| first | exact p1018 | exact cmr (by decide) (by decide) | exact cm (by decide) (by decide) | exact cm (by omega) (by omega) | exact ⟨by decide, by decide⟩ | (dsimp only; omega) | omega | assumption)
local macro_rules | `(tactic| wtm_at "s") => `(tactic| first | refine ⟨_, rfl, ?_⟩ | refine ⟨_, _, rfl, rfl, ?_⟩ | refine ⟨rfl, ?_⟩ | refine ⟨_, _, _, _, rfl, rfl, SqT.of (by wtm_at "h"), rfl, ?_⟩ | refine ⟨_, _, _, _, rfl, rfl, SqL.of (by wtm_at "h"), rfl, ?_⟩ | refine And.intro (by wtm_at "c") ?_)
local macro_rules | `(tactic| wtm_at "ss") => `(tactic| repeat wtm_at "s")
/-! ### sayings of pairs and of three; all of them -/
def wpn (mk : Nat → Nat → Int → Say) (w : Int) (prs : List (Nat × Nat)) : List Say := prs.flatMap fun x => (ir (-w) (w + 1 - -w).toNat).map (mk x.1 x.2)
def Say.nz : Say → Bool
  | .gap _ _ n => !decide (n = 0)
  | _ => true
def gapL (n : Nat) : List Say := (wpn Say.gap 20 (rise n)).filter Say.nz
def w3 (mk : Nat → Nat → Nat → Say) (n : Nat) (prs : List (Nat × Nat)) : List Say := prs.flatMap fun x => (ir 0 n).filterMap fun c => if c = (x.1 : Int) ∨ c = (x.2 : Int) then none else some (mk x.1 x.2 c.toNat)
def prL (mk : Nat → Nat → Say) (prs : List (Nat × Nat)) : List Say := prs.map fun x => mk x.1 x.2
def sayl (bs : List Box) : List Say := wnum .is_ 0 0 bs ++ wnum .frm 1 0 bs ++ wnum .to_ 0 1 bs ++ restL bs ++ eithL bs ++ wnum .nev 0 0 bs ++ prL .same (rise bs.length) ++ prL .below (unl bs.length) ++ prL .most (unl bs.length) ++ gapL bs.length ++ wpn .sum 40 (rise bs.length) ++ w3 .adds bs.length (rise bs.length) ++ w3 .times bs.length (rise bs.length)
def spWithPair : Sp := fun vs H Q _ => ∃ (f : Str) (mk : Nat → Nat → Say) (pp : Addr) (up : List V) (prs : List (Nat × Nat)), vs = [.str f, .ref pp] ∧ (∀ a b, (mk a b).tup = [.str f, .int (a : Nat), .int (b : Nat)]) ∧ TsAt ptup H pp up prs ∧ up.length ≤ 16 ∧
  ∀ (p : Addr) (us' : List V) (H' : Hp), H p = none → Same H H' → SaysAt H' p us' (prL mk prs) → us'.length ≤ 16 → Q (.ref p) H'
def spWpn : Sp := fun vs H Q _ => ∃ (f : Str) (mk : Nat → Nat → Int → Say) (pb : Addr) (w : Int) (us : List V), vs = [.str f, .ref pb, .int w] ∧ (∀ a b n, (mk a b n).tup = [.str f, .int (a : Nat), .int (b : Nat), .int n]) ∧ H pb = some (.lst us) ∧ us.length ≤ 4 ∧ 0 ≤ w ∧ w ≤ 40 ∧
  ∀ (p : Addr) (us' : List V) (H' : Hp), H p = none → Same H H' → SaysAt H' p us' (wpn mk w (rise us.length)) → us'.length ≤ 1600 → Q (.ref p) H'
def spGaps : Sp := fun vs H Q _ => ∃ (pb : Addr) (us : List V), vs = [.ref pb] ∧ H pb = some (.lst us) ∧ us.length ≤ 4 ∧
  ∀ (p : Addr) (us' : List V) (H' : Hp), H p = none → Same H H' → SaysAt H' p us' (gapL us.length) → us'.length ≤ 1600 → Q (.ref p) H'
def spThree : Sp := fun vs H Q _ => ∃ (f : Str) (mk : Nat → Nat → Nat → Say) (pb : Addr) (us : List V), vs = [.str f, .ref pb] ∧ (∀ a b c, (mk a b c).tup = [.str f, .int (a : Nat), .int (b : Nat), .int (c : Nat)]) ∧ H pb = some (.lst us) ∧ us.length ≤ 4 ∧
  ∀ (p : Addr) (us' : List V) (H' : Hp), H p = none → Same H H' → SaysAt H' p us' (w3 mk us.length (rise us.length)) → us'.length ≤ 64 → Q (.ref p) H'
def spSayings : Sp := fun vs H Q _ => ∃ (pp pb : Addr) (pw : V) (us : List V) (bs : List Box), vs = [.ref pp] ∧ H pp = some (.tup [.ref pb, pw]) ∧ BoxesAt H pb us bs ∧ (∀ b ∈ bs, b.Ok) ∧ bs.length ≤ 4 ∧
  ∀ (p : Addr) (us' : List V) (H' : Hp), H p = none → Same H H' → SaysAt H' p us' (sayl bs) → us'.length ≤ 6000 → Q (.ref p) H'
theorem SaysAt.cat {H : Hp} {l b p : Addr} {xs zs : List V} {os qs : List Say} (h : SaysAt H l xs os) (g : SaysAt H b zs qs) (hp : H p = none) : SaysAt (upd H p (.lst (xs ++ zs))) p (xs ++ zs) (os ++ qs) :=
  ⟨upd_same, all2_app ((h.same (Same.new hp _)).each) ((g.same (Same.new hp _)).each)⟩
section
variable {P : Program} {w : World} {K : PySem.W.Frag} {mg : Str → Option Value} {base : Heap}
theorem scWithPair : FnScope ["form", "pairs"] ["form", "pairs"] (defScope sPWithPair) := ⟨rfl, rfl, rfl, by decide +kernel, rfl, by decide +kernel, by decide +kernel⟩
theorem ok_withPair (h : Has K mg "with_pair" sPWithPair ["form", "pairs"]) : Cal P w K mg base 1 "with_pair" ["form", "pairs"] spWithPair := by
  refine h.cal scWithPair (fun vs H Q E h => ?_) (fun f cdv A outer s H vs Q E hr h => ?_)
  · obtain ⟨f, mk, pp, up, prs, rfl, _⟩ := h
    rfl
  obtain ⟨fm, mk, pp, up, prs, rfl, hmk, X, l16, q⟩ := h
  have nd3 : (["a", "b", "form"] : List Str).Nodup := by decide +kernel
  refine ⟨_, (pss_one (ps_ret (pe_lc (defScope sPWithPair) ["form", "pairs"] (N := ["a", "b", "form"]) (ix := [none, none, some 0]) rfl ⟨rfl, by decide +kernel, by decide +kernel, by decide +kernel, rfl, by decide +kernel⟩ (pi_list (pv 1)) (fun _ _ _ _ => pgt K 2 rfl (pgs_cons (pg_name (i := 0) nd3 rfl (Or.inl rfl)) (pgs_cons (pg_name (i := 1) nd3 rfl (Or.inl rfl)) pgs_nil))) (fun _ _ _ _ => pts_nil) (fun _ _ _ _ => (pe_tup (pa_cons (pv 2) (pa_cons (pv 0) (pa_cons (pv 1) pa_nil)))))))), ?_⟩
  refine ⟨_, rfl, pp, rfl, ⟨_, SqL.of X.at_⟩, fun D hD => ?_⟩
  refine lc_list (K := K) (a := pp) (xs := up) (fun i ys σ H' => (∃ c0 c1 : Option V, σ = [c0, c1, some (.str fm)]) ∧ TsAt Say.tup H' D ys (prL mk (prs.take i)) ∧ Same H H' ∧ ys.length ≤ i)
    ⟨⟨none, none, rfl⟩, TsAt.nil, Same.new hD _, Nat.le_refl _⟩ (fun i ys σ H' _ ⟨_, _, e, _⟩ => SqL.of (e _ _ X.at_)) ?_ ?_
  · rintro i x ys σ H' hi ⟨⟨c0, c1, rfl⟩, T1, e', hl⟩
    obtain ⟨x, hx, p, rfl, hp⟩ := X.each.at hi
    have hil := (List.getElem?_eq_some_iff.mp hi).1
    refine ⟨p, _, rfl, SqT.of (e' _ _ hp), rfl, _, _, rfl, _, _, rfl, rfl, ?_⟩
    refine ⟨_, rfl, _, rfl, _, rfl, (by show 3 ≤ sizeLine; decide), fun t ht => ?_⟩
    have s4 := Same.new ht (.tup [.str fm, .int (x.1 : Nat), .int (x.2 : Nat)])
    refine ⟨s4 _ _ T1.at_, small1000 (by omega), ⟨_, _, rfl⟩, ?_, fun c u z => ?_, by rw [List.length_append, List.length_singleton]; omega⟩
    · unfold prL
      rw [List.take_add_one, hx, List.map_append]
      have := T1.push (x := mk x.1 x.2) ht
      rw [hmk] at this
      exact this
    · rw [upd_ne (ne_of_none z hD)]
      exact s4 _ _ (e' _ _ z)
  · rintro ys σ H' ⟨_, T1, e', hl⟩
    rw [X.each.1, List.take_length] at T1
    exact q D ys H' hD e' T1.says (by omega)
theorem scWpn : FnScope ["form", "boxes", "widest", "told", "a", "b"] ["form", "boxes", "widest"] (defScope sPWithPairAndNumber) := ⟨rfl, rfl, rfl, by decide +kernel, rfl, by decide +kernel, by decide +kernel⟩
theorem ok_wpn (h : Has K mg "with_pair_and_number" sPWithPairAndNumber ["form", "boxes", "widest"]) (B : Blt mg) (cR : Cal P w K mg base 1 "rising_pairs" ["boxes"] (spPrs rise)) : Cal P w K mg base 2 "with_pair_and_number" ["form", "boxes", "widest"] spWpn := by
  refine h.cal scWpn (fun vs H Q E h => ?_) (fun f cdv A outer s H vs Q E hr h => ?_)
  · obtain ⟨f, mk, pb, w', us, rfl, _⟩ := h
    rfl
  obtain ⟨fm, mk, pb, w', us, rfl, hmk, X, l4, w0, w40, q⟩ := h
  refine ⟨_, (pss_cons (ps_set (i := 3) scWpn.nd rfl (Or.inl rfl) (pe_lst pa_nil))
    (pss_cons (ps_for PassesOwn.never rfl (pi_list (pe_cal cR hr rfl (pa_cons (pv 1) pa_nil))) (pg_tup rfl (pgs_cons (pg_name (i := 4) scWpn.nd rfl (Or.inr rfl)) (pgs_cons (pg_name (i := 5) scWpn.nd rfl (Or.inr rfl)) pgs_nil))) (pss_one (ps_expr (pe_bm PySem.F.plainAttrs_list PySem.F.slot_list_extend PySem.F.type_list_extend mt_extend (pv 3) (pa_cons (pe_lc (defScope sPWithPairAndNumber) ["form", "boxes", "widest", "told", "a", "b"] (N := ["n", "form", "a", "b"]) (ix := [none, some 0, some 4, some 5]) rfl ⟨rfl, by decide +kernel, by decide +kernel, by decide +kernel, rfl, by decide +kernel⟩ (pi_range2 rfl B.range (pa_cons (pe_un un_neg (pv 2)) (pa_cons (pe_op op_add (pv 2) pe_int) pa_nil))) (fun _ _ _ _ => pg_name (i := 0) (show (["n", "form", "a", "b"] : List Str).Nodup by decide +kernel) rfl (Or.inl rfl)) (fun _ _ _ _ => pts_nil) (fun _ _ _ _ => (pe_tup (pa_cons (pv 1) (pa_cons (pv 2) (pa_cons (pv 3) (pa_cons (pv 0) pa_nil))))))) pa_nil)))))
    (pss_one (ps_ret (pv 3))))), ?_⟩
  refine ⟨(by show 0 ≤ sizeLine; decide), fun pt hpt => ?_⟩
  have s1 := Same.new hpt (.lst [])
  have T0 : TsAt Say.tup (upd H pt (.lst [])) pt [] [] := TsAt.nil
  generalize upd H pt (.lst []) = H1 at *
  refine ⟨_, rfl, pb, us, rfl, s1 _ _ X, l4, fun pr ur H2 hpr s2 R2 r16 => ?_⟩
  have s12 := s1.trans s2
  refine ⟨pr, rfl, ⟨_, SqL.of R2.at_⟩, for_list (K := K) (a := pr) (xs := ur) (fun i σ H' => ∃ (ts : List V) (c4 c5 : Option V), σ = [some (.str fm), some (.ref pb), some (.int w'), some (.ref pt), c4, c5] ∧ TsAt Say.tup H' pt ts (wpn mk w' ((rise us.length).take i)) ∧ ts.length ≤ 100 * i ∧ Same H H' ∧ TsAt ptup H' pr ur (rise us.length))
    ⟨[], none, none, rfl, T0.same s2, Nat.le_refl _, s12, R2⟩ (fun i σ H' _ ⟨_, _, _, _, _, _, _, R⟩ => SqL.of R.at_) ?_ ?_⟩
  · rintro i x σ H' hi ⟨ts, c4, c5, rfl, T1, tl, e', R1⟩
    obtain ⟨x, hx, p, rfl, hp⟩ := R1.each.at hi
    have hil := (List.getElem?_eq_some_iff.mp hi).1
    refine ⟨p, _, rfl, SqT.of hp, rfl, _, _, rfl, _, _, rfl, rfl, ?_⟩
    refine ⟨_, rfl, .inl ⟨rfl, _, SqL.of T1.at_⟩, _, rfl, _, rfl, _, rfl, _, _, rfl, rfl, _, _, rfl, ⟨by omega, by omega, by omega, by omega⟩, fun D hD => ?_⟩
    refine lcr_ts Say.tup (lo := -w') (n := (w' + 1 - -w').toNat) (fun n => some (mk x.1 x.2 n)) hD (by omega) (fun k H4 K1 K2 _ _ _ z => ?_) fun ys H4 T4 e4 => ?_
    · have z' : ∀ p, H4 p = none → K1 (.ref p) (upd H4 p (.tup (mk x.1 x.2 k).tup)) := z
      rw [hmk] at z'
      exact tt_yes ⟨_, rfl, _, rfl, _, rfl, _, rfl, (by show 4 ≤ sizeLine; decide), z'⟩
    rw [show (fun n => some (mk x.1 x.2 n)) = some ∘ (fun n => mk x.1 x.2 n) from rfl, List.filterMap_eq_map] at T4
    have T5 := T1.same e4
    have R5 := R1.same e4
    have ntr : pt ≠ pr := fun z => by
      have h1 := T1.at_
      have hc := ne_of_none (H := H1) (a := pt) (b := pr) T0.at_ hpr
      exact hc z
    have yl : ys.length ≤ 81 := by
      rw [T4.each.1, List.length_map, ir_len]
      omega
    refine ⟨pt, D, ts, ys, rfl, rfl, T5.at_, T4.at_, sz' (by omega), ?_⟩
    refine ⟨ts ++ ys, _, _, rfl, ?_, by rw [List.length_append]; omega, fun c u z => ?_, ⟨?_, R5.each_put T5.at_⟩⟩
    · unfold wpn
      rw [List.take_add_one, hx, List.flatMap_append]
      have := T5.ext T4
      simpa [wpn] using this
    · rw [upd_ne (ne_of_none z hpt)]
      exact e4 _ _ (e' _ _ z)
    · rw [upd_ne ntr.symm]
      exact R5.at_
  · rintro σ H' ⟨ts, c4, c5, rfl, T1, tl, e', R1⟩
    rw [R1.each.1, List.take_length] at T1
    refine ⟨_, rfl, q pt ts H' hpt e' T1.says ?_⟩
    omega
theorem scGaps : FnScope ["boxes"] ["boxes"] (defScope sPGaps) := ⟨rfl, rfl, rfl, by decide +kernel, rfl, by decide +kernel, by decide +kernel⟩
theorem ok_gaps (h : Has K mg "gaps" sPGaps ["boxes"]) (gl : Glb K mg) (cW : Cal P w K mg base 2 "with_pair_and_number" ["form", "boxes", "widest"] spWpn) : Cal P w K mg base 3 "gaps" ["boxes"] spGaps := by
  refine h.cal scGaps (fun vs H Q E h => ?_) (fun f cdv A outer s H vs Q E hr h => ?_)
  · obtain ⟨pb, us, rfl, _⟩ := h
    rfl
  obtain ⟨pb, us, rfl, X, l4, q⟩ := h
  obtain ⟨tk1, hm1⟩ := gl.WIDEST_GAP
  refine ⟨_, (pss_one (ps_ret (pe_lc (defScope sPGaps) ["boxes"] (N := ["saying"]) (ix := [none]) rfl ⟨rfl, by decide +kernel, by decide +kernel, by decide +kernel, rfl, by decide +kernel⟩ (pi_list (pe_cal cW hr rfl (pa_cons pe_str (pa_cons (pv 0) (pa_cons (pe_glob (v := .int 20) rfl hm1 ⟨_, rfl⟩) pa_nil))))) (fun _ _ _ _ => pg_name (i := 0) (show (["saying"] : List Str).Nodup by decide +kernel) rfl (Or.inl rfl)) (fun _ _ _ _ => (pts_one (pt_cmpR op_ne (pe_ix (ixt K) (pv 0) pe_int (fun _ _ => rfl)) pe_int (nomark _)))) (fun _ _ _ _ => (pv 0))))), ?_⟩
  refine ⟨_, rfl, "gap", Say.gap, pb, 20, us, rfl, (fun a b n => rfl), X, l4, by decide, by decide, fun pw uw H1 hpw s1 W1 wl => ?_⟩
  refine ⟨pw, rfl, ⟨_, SqL.of W1.at_⟩, fun D hD => ?_⟩
  refine lc_list (K := K) (a := pw) (xs := uw) (fun i ys σ H' => (∃ c0 : Option V, σ = [c0]) ∧ SaysAt H' D ys (((wpn Say.gap 20 (rise us.length)).take i).filter Say.nz) ∧ Same H1 H' ∧ ys.length ≤ i)
    ⟨⟨none, rfl⟩, ⟨upd_same, All2.nil⟩, Same.new hD _, Nat.le_refl _⟩ (fun i ys σ H' _ ⟨_, _, e, _⟩ => SqL.of (e _ _ W1.at_)) ?_ ?_
  · rintro i x ys σ H' hi ⟨⟨c0, rfl⟩, T1, e', hl⟩
    obtain ⟨o, ho, p, rfl, hp⟩ := W1.each.at hi
    have hil := (List.getElem?_eq_some_iff.mp hi).1
    obtain ⟨a, b, n, rfl⟩ : ∃ a b n, o = Say.gap a b n := by
      have hm := List.mem_of_getElem? ho
      unfold wpn at hm
      obtain ⟨x, _, hm2⟩ := List.mem_flatMap.mp hm
      obtain ⟨n, _, e⟩ := List.mem_map.mp hm2
      exact ⟨_, _, n, e.symm⟩
    have tk : (wpn Say.gap 20 (rise us.length)).take (i + 1) = (wpn Say.gap 20 (rise us.length)).take i ++ [Say.gap a b n] := by rw [List.take_add_one, ho]; rfl
    refine ⟨_, rfl, p, _, _, _, rfl, rfl, SqT.of (e' _ _ hp), rfl, rfl, _, rfl, ?_⟩
    by_cases en : n = 0
    · refine iteNS (by rw [en]) ⟨⟨_, rfl⟩, ?_, e', by omega⟩
      rw [tk, List.filter_append]
      have : [Say.gap a b n].filter Say.nz = [] := by simp [Say.nz, en]
      rw [this, List.append_nil]
      exact T1
    · refine iteB (by rw [decide_eq_false (fun y => en (by injection y))]; rfl) ?_
      refine ⟨_, rfl, T1.at_, sz (by omega), ⟨_, rfl⟩, ?_, fun c u z => ?_, by rw [List.length_append, List.length_singleton]; omega⟩
      · rw [tk, List.filter_append]
        have : [Say.gap a b n].filter Say.nz = [Say.gap a b n] := by simp [Say.nz, en]
        rw [this]
        exact ⟨upd_same, (T1.each.mono fun _ _ z => z.put T1.at_).snoc (SayAt.put ⟨p, rfl, e' _ _ hp⟩ T1.at_)⟩
      · rw [upd_ne (ne_of_none z hD)]
        exact e' _ _ z
  · rintro ys σ H' ⟨_, T1, e', hl⟩
    rw [W1.each.1, List.take_length] at T1
    exact q D ys H' (Same.free s1 hD) (s1.trans e') T1 (by omega)
theorem scThree : FnScope ["form", "boxes", "told", "a", "b"] ["form", "boxes"] (defScope sPWithThree) := ⟨rfl, rfl, rfl, by decide +kernel, rfl, by decide +kernel, by decide +kernel⟩
theorem ok_three (h : Has K mg "with_three" sPWithThree ["form", "boxes"]) (B : Blt mg) (cR : Cal P w K mg base 1 "rising_pairs" ["boxes"] (spPrs rise)) : Cal P w K mg base 2 "with_three" ["form", "boxes"] spThree := by
  refine h.cal scThree (fun vs H Q E h => ?_) (fun f cdv A outer s H vs Q E hr h => ?_)
  · obtain ⟨f, mk, pb, us, rfl, _⟩ := h
    rfl
  obtain ⟨fm, mk, pb, us, rfl, hmk, X, l4, q⟩ := h
  refine ⟨_, (pss_cons (ps_set (i := 2) scThree.nd rfl (Or.inl rfl) (pe_lst pa_nil))
    (pss_cons (ps_for PassesOwn.never rfl (pi_list (pe_cal cR hr rfl (pa_cons (pv 1) pa_nil))) (pg_tup rfl (pgs_cons (pg_name (i := 3) scThree.nd rfl (Or.inr rfl)) (pgs_cons (pg_name (i := 4) scThree.nd rfl (Or.inr rfl)) pgs_nil))) (pss_one (ps_expr (pe_bm PySem.F.plainAttrs_list PySem.F.slot_list_extend PySem.F.type_list_extend mt_extend (pv 2) (pa_cons (pe_lc (defScope sPWithThree) ["form", "boxes", "told", "a", "b"] (N := ["c", "form", "a", "b"]) (ix := [none, some 0, some 3, some 4]) rfl ⟨rfl, by decide +kernel, by decide +kernel, by decide +kernel, rfl, by decide +kernel⟩ (pi_range1 rfl B.range (pa_cons (pe_callB call_len_seq rfl B.len bt_len (pa_cons (pv 1) pa_nil)) pa_nil)) (fun _ _ _ _ => pg_name (i := 0) (show (["c", "form", "a", "b"] : List Str).Nodup by decide +kernel) rfl (Or.inl rfl)) (fun _ _ _ _ => (pts_one (PW.pt (pw_and (pt_cmpR op_ne (pv 0) (pv 2) (nomark _)) (pw_and1 (pt_cmpR op_ne (pv 0) (pv 3) (nomark _))))))) (fun _ _ _ _ => (pe_tup (pa_cons (pv 1) (pa_cons (pv 2) (pa_cons (pv 3) (pa_cons (pv 0) pa_nil))))))) pa_nil)))))
    (pss_one (ps_ret (pv 2))))), ?_⟩
  refine ⟨(by show 0 ≤ sizeLine; decide), fun pt hpt => ?_⟩
  have s1 := Same.new hpt (.lst [])
  have T0 : TsAt Say.tup (upd H pt (.lst [])) pt [] [] := TsAt.nil
  generalize upd H pt (.lst []) = H1 at *
  refine ⟨_, rfl, pb, us, rfl, s1 _ _ X, l4, fun pr ur H2 hpr s2 R2 r16 => ?_⟩
  have s12 := s1.trans s2
  have ntr : pt ≠ pr := ne_of_none T0.at_ hpr
  refine ⟨pr, rfl, ⟨_, SqL.of R2.at_⟩, for_list (K := K) (a := pr) (xs := ur) (fun i σ H' => ∃ (ts : List V) (c3 c4 : Option V), σ = [some (.str fm), some (.ref pb), some (.ref pt), c3, c4] ∧ TsAt Say.tup H' pt ts (w3 mk us.length ((rise us.length).take i)) ∧ ts.length ≤ 4 * i ∧ Same H H' ∧ TsAt ptup H' pr ur (rise us.length))
    ⟨[], none, none, rfl, T0.same s2, Nat.le_refl _, s12, R2⟩ (fun i σ H' _ ⟨_, _, _, _, _, _, _, R⟩ => SqL.of R.at_) ?_ ?_⟩
  · rintro i x σ H' hi ⟨ts, c3, c4, rfl, T1, tl, e', R1⟩
    obtain ⟨x, hx, p, rfl, hp⟩ := R1.each.at hi
    have hil := (List.getElem?_eq_some_iff.mp hi).1
    refine ⟨p, _, rfl, SqT.of hp, rfl, _, _, rfl, _, _, rfl, rfl, ?_⟩
    refine ⟨_, rfl, .inl ⟨rfl, _, SqL.of T1.at_⟩, _, rfl, pb, _, rfl, .inl (SqL.of (e' _ _ X)), _, rfl, by omega, by omega, fun D hD => ?_⟩
    refine lcr_ts Say.tup (lo := 0) (n := ((us.length : Nat) : Int).toNat) (fun c => if c = (x.1 : Int) ∨ c = (x.2 : Int) then none else some (mk x.1 x.2 c.toNat)) hD (by omega) (fun k H4 K1 K2 k0 k1 _ z => ?_) fun ys H4 T4 e4 => ?_
    · refine ⟨_, rfl, _, rfl, rfl, _, rfl, ?_⟩
      by_cases ea : k = (x.1 : Int)
      · rw [if_pos (.inl ea)] at z
        exact iteNS (by rw [ea]) (iteF z)
      · refine iteB (by rw [decide_eq_false (fun y => ea (by injection y))]; rfl) ?_
        refine ⟨_, rfl, _, rfl, rfl, _, rfl, ?_⟩
        by_cases eb : k = (x.2 : Int)
        · rw [if_pos (.inr eb)] at z
          exact iteNS (by rw [eb]) z
        · rw [if_neg (fun y => y.elim ea eb)] at z
          have z' : ∀ p, H4 p = none → K1 (.ref p) (upd H4 p (.tup (mk x.1 x.2 k.toNat).tup)) := z
          rw [hmk, show ((k.toNat : Nat) : Int) = k from by omega] at z'
          refine iteB (by rw [decide_eq_false (fun y => eb (by injection y))]; rfl) ?_
          exact ⟨_, rfl, _, rfl, _, rfl, _, rfl, (by show 4 ≤ sizeLine; decide), z'⟩
    have T5 := T1.same e4
    have R5 := R1.same e4
    have yl : ys.length ≤ 4 := by
      rw [T4.each.1]
      refine Nat.le_trans (List.length_filterMap_le _ _) ?_
      rw [ir_len]
      omega
    refine ⟨pt, D, ts, ys, rfl, rfl, T5.at_, T4.at_, small (by omega), ?_⟩
    refine ⟨ts ++ ys, _, _, rfl, ?_, by rw [List.length_append]; omega, fun c u z => ?_, ⟨?_, R5.each_put T5.at_⟩⟩
    · rw [Int.toNat_natCast] at T4
      unfold w3
      rw [List.take_add_one, hx, List.flatMap_append]
      have := T5.ext T4
      simpa [w3] using this
    · rw [upd_ne (ne_of_none z hpt)]
      exact e4 _ _ (e' _ _ z)
    · rw [upd_ne ntr.symm]
      exact R5.at_
  · rintro σ H' ⟨ts, c3, c4, rfl, T1, tl, e', R1⟩
    rw [R1.each.1, List.take_length] at T1
    exact ⟨_, rfl, q pt ts H' hpt e' T1.says (by omega)⟩
end
end K22

namespace K22
open PySem L2
local macro_rules | `(tactic| wtm_at "h") => `(tactic| first | assumption | exact upd_same)
local macro_rules | `(tactic| wtm_at "c") => `(tactic| first | exact p1018 | exact cmr (by decide) (by decide) | exact cm (by decide) (by decide) | exact cm (by omega) (by omega) | exact ⟨by decide, by decide⟩ | (dsimp only; omega) | omega | assumption)
local macro_rules | `(tactic| wtm_at "s") => `(tactic| first | refine ⟨_, rfl, ?_⟩ | refine ⟨_, _, rfl, rfl, ?_⟩ | refine ⟨rfl, ?_⟩ | refine ⟨_, _, _, _, rfl, rfl, SqT.of (by wtm_at "h"), rfl, ?_⟩ | refine ⟨_, _, _, _, rfl, rfl, SqL.of (by wtm_at "h"), rfl, ?_⟩ | refine And.intro (by wtm_at "c") ?_)
local macro_rules | `(tactic| wtm_at "ss") => `(tactic| repeat wtm_at "s")
/-! ### all sayings -/
section
variable {P : Program} {w : World} {K : PySem.W.Frag} {mg : Str → Option Value} {base : Heap}
theorem scSayings : FnScope ["program", "boxes"] ["program"] (defScope sPSayings) := ⟨rfl, rfl, rfl, by decide +kernel, rfl, by decide +kernel, by decide +kernel⟩
theorem ok_sayings (h : Has K mg "sayings" sPSayings ["program"]) (gl : Glb K mg) (cN : Cal P w K mg base 1 "with_number" ["form", "boxes", "above", "below"] spWithNumber) (cR : Cal P w K mg base 1 "rests" ["boxes"] (spBx restL 120)) (cE : Cal P w K mg base 1 "eithers" ["boxes"] (spBx eithL 1600)) (cP : Cal P w K mg base 1 "with_pair" ["form", "pairs"] spWithPair) (cI : Cal P w K mg base 1 "rising_pairs" ["boxes"] (spPrs rise)) (cU : Cal P w K mg base 1 "unlike_pairs" ["boxes"] (spPrs unl)) (cG : Cal P w K mg base 3 "gaps" ["boxes"] spGaps) (cW : Cal P w K mg base 2 "with_pair_and_number" ["form", "boxes", "widest"] spWpn) (cT : Cal P w K mg base 2 "with_three" ["form", "boxes"] spThree) : Cal P w K mg base 4 "sayings" ["program"] spSayings := by
  refine h.cal scSayings (fun vs H Q E h => ?_) (fun f cdv A outer s H vs Q E hr h => ?_)
  · obtain ⟨pp, pb, pw, us, bs, rfl, _⟩ := h
    rfl
  obtain ⟨pp, pb, pw, us, bs, rfl, hpp, X, ok, l4, q⟩ := h
  obtain ⟨tk1, hm1⟩ := gl.WIDEST_SUM
  have hr3 : Room 3 _ := hr
  have hr2 : Room 2 _ := hr.mono (by decide)
  have hr1 : Room 1 _ := hr.mono (by decide)
  have ul : us.length = bs.length := X.each.1
  have l4' : us.length ≤ 4 := by omega
  refine ⟨_, (@pss_cons _ _ _ _ _ (@ps_set _ _ 1 _ _ _ _ scSayings.nd rfl (Or.inl rfl) (@pe_ix _ _ _ _ _ _ _ ix_tup (pv 0) pe_int (fun _ _ => rfl)) rfl (Or.inl rfl)) (@pss_one _ _ _ (@ps_ret _ _ _ _ (@pe_op _ _ _ _ _ _ _ _ op_cat (@pe_op _ _ _ _ _ _ _ _ op_cat (@pe_op _ _ _ _ _ _ _ _ op_cat (@pe_op _ _ _ _ _ _ _ _ op_cat (@pe_op _ _ _ _ _ _ _ _ op_cat (@pe_op _ _ _ _ _ _ _ _ op_cat (@pe_op _ _ _ _ _ _ _ _ op_cat (@pe_op _ _ _ _ _ _ _ _ op_cat (@pe_op _ _ _ _ _ _ _ _ op_cat (@pe_op _ _ _ _ _ _ _ _ op_cat (@pe_op _ _ _ _ _ _ _ _ op_cat (@pe_op _ _ _ _ _ _ _ _ op_cat (pe_cal cN hr1 rfl (@pa_cons _ _ _ _ _ pe_str (@pa_cons _ _ _ _ _ (pv 1) (@pa_cons _ _ _ _ _ pe_int (@pa_cons _ _ _ _ _ pe_int pa_nil rfl) rfl) rfl) rfl)) (pe_cal cN hr1 rfl (@pa_cons _ _ _ _ _ pe_str (@pa_cons _ _ _ _ _ (pv 1) (@pa_cons _ _ _ _ _ pe_int (@pa_cons _ _ _ _ _ pe_int pa_nil rfl) rfl) rfl) rfl))) (pe_cal cN hr1 rfl (@pa_cons _ _ _ _ _ pe_str (@pa_cons _ _ _ _ _ (pv 1) (@pa_cons _ _ _ _ _ pe_int (@pa_cons _ _ _ _ _ pe_int pa_nil rfl) rfl) rfl) rfl))) (pe_cal cR hr1 rfl (@pa_cons _ _ _ _ _ (pv 1) pa_nil rfl))) (pe_cal cE hr1 rfl (@pa_cons _ _ _ _ _ (pv 1) pa_nil rfl))) (pe_cal cN hr1 rfl (@pa_cons _ _ _ _ _ pe_str (@pa_cons _ _ _ _ _ (pv 1) (@pa_cons _ _ _ _ _ pe_int (@pa_cons _ _ _ _ _ pe_int pa_nil rfl) rfl) rfl) rfl))) (pe_cal cP hr1 rfl (@pa_cons _ _ _ _ _ pe_str (@pa_cons _ _ _ _ _ (pe_cal cI hr1 rfl (@pa_cons _ _ _ _ _ (pv 1) pa_nil rfl)) pa_nil rfl) rfl))) (pe_cal cP hr1 rfl (@pa_cons _ _ _ _ _ pe_str (@pa_cons _ _ _ _ _ (pe_cal cU hr1 rfl (@pa_cons _ _ _ _ _ (pv 1) pa_nil rfl)) pa_nil rfl) rfl))) (pe_cal cP hr1 rfl (@pa_cons _ _ _ _ _ pe_str (@pa_cons _ _ _ _ _ (pe_cal cU hr1 rfl (@pa_cons _ _ _ _ _ (pv 1) pa_nil rfl)) pa_nil rfl) rfl))) (pe_cal cG hr3 rfl (@pa_cons _ _ _ _ _ (pv 1) pa_nil rfl))) (pe_cal cW hr2 rfl (@pa_cons _ _ _ _ _ pe_str (@pa_cons _ _ _ _ _ (pv 1) (@pa_cons _ _ _ _ _ (pe_glob (v := .int 40) rfl hm1 ⟨_, rfl⟩) pa_nil rfl) rfl) rfl))) (pe_cal cT hr2 rfl (@pa_cons _ _ _ _ _ pe_str (@pa_cons _ _ _ _ _ (pv 1) pa_nil rfl) rfl))) (pe_cal cT hr2 rfl (@pa_cons _ _ _ _ _ pe_str (@pa_cons _ _ _ _ _ (pv 1) pa_nil rfl) rfl)))))), ?_⟩
  refine ⟨_, rfl, pp, _, _, _, rfl, rfl, SqT.of hpp, rfl, ?_⟩
  refine ⟨_, rfl, "is", Say.is_, pb, 0, 0, us, bs, rfl, (fun i n => rfl), X, ok, l4, by decide, by decide, by decide, by decide, fun p1 u1 H1 _ s1 S1 n1 => ?_⟩
  refine ⟨_, rfl, "from", Say.frm, pb, 1, 0, us, bs, rfl, (fun i n => rfl), X.same s1, ok, l4, by decide, by decide, by decide, by decide, fun p2 u2 H2 _ s2 S2 n2 => ?_⟩
  refine ⟨p1, p2, u1, u2, rfl, rfl, (S1.same s2).at_, S2.at_, sz' (by omega), fun c1 hc1 => ?_⟩
  have C1 := (S1.same s2).cat S2 hc1
  have t1 := (s1.trans s2).trans (Same.new hc1 (.lst (u1 ++ u2)))
  have m1 : (u1 ++ u2).length ≤ 200 := by rw [List.length_append]; omega
  generalize upd H2 c1 (.lst (u1 ++ u2)) = G1 at *
  refine ⟨_, rfl, "to", Say.to_, pb, 0, 1, us, bs, rfl, (fun i n => rfl), X.same t1, ok, l4, by decide, by decide, by decide, by decide, fun p3 u3 H3 _ s3 S3 n3 => ?_⟩
  refine ⟨c1, p3, _, u3, rfl, rfl, (C1.same s3).at_, S3.at_, sz' (by omega), fun c2 hc2 => ?_⟩
  have C2 := (C1.same s3).cat S3 hc2
  have t2 := (t1.trans s3).trans (Same.new hc2 (.lst (u1 ++ u2 ++ u3)))
  have m2 : (u1 ++ u2 ++ u3).length ≤ 400 := by rw [List.length_append]; omega
  generalize upd H3 c2 (.lst (u1 ++ u2 ++ u3)) = G2 at *
  generalize u1 ++ u2 ++ u3 = v2 at *
  refine ⟨_, rfl, pb, us, bs, rfl, X.same t2, ok, l4, fun p4 u4 H4 _ s4 S4 n4 => ?_⟩
  refine ⟨c2, p4, _, u4, rfl, rfl, (C2.same s4).at_, S4.at_, sz' (by omega), fun c3 hc3 => ?_⟩
  have C3 := (C2.same s4).cat S4 hc3
  have t3 := (t2.trans s4).trans (Same.new hc3 (.lst (v2 ++ u4)))
  have m3 : (v2 ++ u4).length ≤ 600 := by rw [List.length_append]; omega
  generalize upd H4 c3 (.lst (v2 ++ u4)) = G3 at *
  generalize v2 ++ u4 = v3 at *
  refine ⟨_, rfl, pb, us, bs, rfl, X.same t3, ok, l4, fun p5 u5 H5 _ s5 S5 n5 => ?_⟩
  refine ⟨c3, p5, _, u5, rfl, rfl, (C3.same s5).at_, S5.at_, sz' (by omega), fun c4 hc4 => ?_⟩
  have C4 := (C3.same s5).cat S5 hc4
  have t4 := (t3.trans s5).trans (Same.new hc4 (.lst (v3 ++ u5)))
  have m4 : (v3 ++ u5).length ≤ 2200 := by rw [List.length_append]; omega
  generalize upd H5 c4 (.lst (v3 ++ u5)) = G4 at *
  generalize v3 ++ u5 = v4 at *
  refine ⟨_, rfl, "never", Say.nev, pb, 0, 0, us, bs, rfl, (fun i n => rfl), X.same t4, ok, l4, by decide, by decide, by decide, by decide, fun p6 u6 H6 _ s6 S6 n6 => ?_⟩
  refine ⟨c4, p6, _, u6, rfl, rfl, (C4.same s6).at_, S6.at_, sz' (by omega), fun c5 hc5 => ?_⟩
  have C5 := (C4.same s6).cat S6 hc5
  have t5 := (t4.trans s6).trans (Same.new hc5 (.lst (v4 ++ u6)))
  have m5 : (v4 ++ u6).length ≤ 2300 := by rw [List.length_append]; omega
  generalize upd H6 c5 (.lst (v4 ++ u6)) = G5 at *
  generalize v4 ++ u6 = v5 at *
  refine ⟨_, rfl, pb, us, rfl, t5 _ _ X.at_, l4', fun r7 w7 J7 _ i7 R7 r16 => ?_⟩
  refine ⟨"same", Say.same, r7, w7, rise us.length, rfl, (fun a b => rfl), R7, r16, fun p7 u7 H7 _ s7 S7 n7 => ?_⟩
  have C5' := (C5.same i7).same s7
  refine ⟨c5, p7, _, u7, rfl, rfl, C5'.at_, S7.at_, sz' (by omega), fun c6 hc6 => ?_⟩
  have C6 := C5'.cat S7 hc6
  have t6 := ((t5.trans i7).trans s7).trans (Same.new hc6 (.lst (v5 ++ u7)))
  have m6 : (v5 ++ u7).length ≤ 2400 := by rw [List.length_append]; omega
  generalize upd H7 c6 (.lst (v5 ++ u7)) = G6 at *
  generalize v5 ++ u7 = v6 at *
  refine ⟨_, rfl, pb, us, rfl, t6 _ _ X.at_, l4', fun r8 w8 J8 _ i8 R8 r16 => ?_⟩
  refine ⟨"below", Say.below, r8, w8, unl us.length, rfl, (fun a b => rfl), R8, r16, fun p8 u8 H8 _ s8 S8 n8 => ?_⟩
  have C6' := (C6.same i8).same s8
  refine ⟨c6, p8, _, u8, rfl, rfl, C6'.at_, S8.at_, sz' (by omega), fun c7 hc7 => ?_⟩
  have C7 := C6'.cat S8 hc7
  have t7 := ((t6.trans i8).trans s8).trans (Same.new hc7 (.lst (v6 ++ u8)))
  have m7 : (v6 ++ u8).length ≤ 2500 := by rw [List.length_append]; omega
  generalize upd H8 c7 (.lst (v6 ++ u8)) = G7 at *
  generalize v6 ++ u8 = v7 at *
  refine ⟨_, rfl, pb, us, rfl, t7 _ _ X.at_, l4', fun r9 w9 J9 _ i9 R9 r16 => ?_⟩
  refine ⟨"most", Say.most, r9, w9, unl us.length, rfl, (fun a b => rfl), R9, r16, fun p9 u9 H9 _ s9 S9 n9 => ?_⟩
  have C7' := (C7.same i9).same s9
  refine ⟨c7, p9, _, u9, rfl, rfl, C7'.at_, S9.at_, sz' (by omega), fun c8 hc8 => ?_⟩
  have C8 := C7'.cat S9 hc8
  have t8 := ((t7.trans i9).trans s9).trans (Same.new hc8 (.lst (v7 ++ u9)))
  have m8 : (v7 ++ u9).length ≤ 2600 := by rw [List.length_append]; omega
  generalize upd H9 c8 (.lst (v7 ++ u9)) = G8 at *
  generalize v7 ++ u9 = v8 at *
  refine ⟨_, rfl, pb, us, rfl, t8 _ _ X.at_, l4', fun pA uA HA _ sA SA nA => ?_⟩
  refine ⟨c8, pA, _, uA, rfl, rfl, (C8.same sA).at_, SA.at_, sz' (by omega), fun c9 hc9 => ?_⟩
  have C9 := (C8.same sA).cat SA hc9
  have t9 := (t8.trans sA).trans (Same.new hc9 (.lst (v8 ++ uA)))
  have m9 : (v8 ++ uA).length ≤ 4200 := by rw [List.length_append]; omega
  generalize upd HA c9 (.lst (v8 ++ uA)) = G9 at *
  generalize v8 ++ uA = v9 at *
  refine ⟨_, rfl, "sum", Say.sum, pb, 40, us, rfl, (fun a b n => rfl), t9 _ _ X.at_, l4', by decide, by decide, fun pB uB HB _ sB SB nB => ?_⟩
  refine ⟨c9, pB, _, uB, rfl, rfl, (C9.same sB).at_, SB.at_, sz' (by omega), fun cA hcA => ?_⟩
  have CA := (C9.same sB).cat SB hcA
  have tA := (t9.trans sB).trans (Same.new hcA (.lst (v9 ++ uB)))
  have mA : (v9 ++ uB).length ≤ 5800 := by rw [List.length_append]; omega
  generalize upd HB cA (.lst (v9 ++ uB)) = GA at *
  generalize v9 ++ uB = vA at *
  refine ⟨_, rfl, "adds", Say.adds, pb, us, rfl, (fun a b c => rfl), tA _ _ X.at_, l4', fun pC uC HC _ sC SC nC => ?_⟩
  refine ⟨cA, pC, _, uC, rfl, rfl, (CA.same sC).at_, SC.at_, sz' (by omega), fun cB hcB => ?_⟩
  have CB := (CA.same sC).cat SC hcB
  have tB := (tA.trans sC).trans (Same.new hcB (.lst (vA ++ uC)))
  have mB : (vA ++ uC).length ≤ 5900 := by rw [List.length_append]; omega
  generalize upd HC cB (.lst (vA ++ uC)) = GB at *
  generalize vA ++ uC = vB at *
  refine ⟨_, rfl, "times", Say.times, pb, us, rfl, (fun a b c => rfl), tB _ _ X.at_, l4', fun pD uD HD hpD sD SD nD => ?_⟩
  refine ⟨cB, pD, _, uD, rfl, rfl, (CB.same sD).at_, SD.at_, sz' (by omega), fun cC hcC => ?_⟩
  have CC := (CB.same sD).cat SD hcC
  have tC := tB.trans sD
  rw [ul] at CC
  refine q cC _ _ (Same.free tC hcC) (tC.trans (Same.new hcC _)) CC ?_
  rw [List.length_append]
  omega
end
end K22

namespace K22
open PySem L2
local macro_rules | `(tactic| wtm_at "h") => `(tactic| first | assumption | exact upd_same)
local macro_rules | `(tactic| wtm_at "c") => `(tactic| first | exact p1018 | exact cmr (by decide) (by decide) | exact cm (by decide) (by decide) | exact cm (by omega) (by omega) | exact ⟨by decide, by decide⟩ | (dsimp only; omega) | omega | assumption)
local macro_rules | `(tactic| wtm_at "s") => `(tactic| first | refine ⟨_, rfl, ?_⟩ | refine ⟨_, _, rfl, rfl, ?_⟩ | refine ⟨rfl, ?_⟩ | refine ⟨_, _, _, _, rfl, rfl, SqT.of (by wtm_at "h"), rfl, ?_⟩ | refine ⟨_, _, _, _, rfl, rfl, SqL.of (by wtm_at "h"), rfl, ?_⟩ | refine And.intro (by wtm_at "c") ?_)
local macro_rules | `(tactic| wtm_at "ss") => `(tactic| repeat wtm_at "s")
/-! ### sayings as keys; alike -/
def Say.head : Say → Str
  | .is_ _ _ => "is" | .frm _ _ => "from" | .to_ _ _ => "to" | .rest _ _ _ => "rest" | .eith _ _ _ => "either" | .nev _ _ => "never" | .same _ _ => "same" | .below _ _ => "below" | .most _ _ => "most" | .gap _ _ _ => "gap" | .sum _ _ _ => "sum" | .adds _ _ _ => "adds" | .times _ _ _ => "times"
def Say.figs : Say → List Int
  | .is_ a n | .frm a n | .to_ a n | .nev a n => [a, n]
  | .rest a m r => [a, m, r]
  | .eith a n k => [a, n, k]
  | .same a b | .below a b | .most a b => [a, b]
  | .gap a b n | .sum a b n => [a, b, n]
  | .adds a b c | .times a b c => [a, b, c]
theorem Say.tup_eq (s : Say) : s.tup = .str s.head :: s.figs.map V.int := by cases s <;> rfl
def Say.key (s : Say) : List Key := .inr s.head :: s.figs.map Sum.inl
theorem Say.tup_key (s : Say) : s.tup = s.key.map kV := by cases s <;> rfl
def unkey (f : Str) (ns : List Int) : Option Say := match ns with
  | [a, n] => if f = "is" then some (.is_ a.toNat n) else if f = "from" then some (.frm a.toNat n) else if f = "to" then some (.to_ a.toNat n) else if f = "never" then some (.nev a.toNat n) else if f = "same" then some (.same a.toNat n.toNat) else if f = "below" then some (.below a.toNat n.toNat) else some (.most a.toNat n.toNat)
  | [a, n, k] => if f = "rest" then some (.rest a.toNat n k) else if f = "either" then some (.eith a.toNat n k) else if f = "gap" then some (.gap a.toNat n.toNat k) else if f = "sum" then some (.sum a.toNat n.toNat k) else if f = "adds" then some (.adds a.toNat n.toNat k.toNat) else some (.times a.toNat n.toNat k.toNat)
  | _ => none
theorem flat_keys (ks : List Key) : (ks.map kV).all flatV = true := by
  rw [List.all_map, List.all_eq_true]
  intro k _
  cases k <;> rfl
theorem flat_say (s : Say) : s.tup.all flatV = true := by rw [s.tup_key]; exact flat_keys _
theorem cut_tail {x : V} {xs : List V} : cutV (x :: xs) (some 1) none = xs := by
  unfold cutV
  have h1 : HT.sIx (x :: xs).length 0 (some 1) = 1 := by
    show (if (1 : Int) < 0 then ((1 : Int) + ((x :: xs).length : Int)).toNat else Nat.min (1 : Int).toNat (x :: xs).length) = 1
    rw [if_neg (by decide)]
    exact Nat.min_eq_left (by simp)
  have h2 : HT.sIx (x :: xs).length (x :: xs).length (none : Option Int) = (x :: xs).length := rfl
  rw [h1, h2]
  show (xs.take ((xs.length + 1) - 1)) = xs
  rw [Nat.add_sub_cancel, List.take_length]
end K22

namespace K22
open PySem L2
local macro_rules | `(tactic| wtm_at "h") => `(tactic| first | assumption | exact upd_same)
local macro_rules | `(tactic| wtm_at "c") => `(tactic| first | exact p1018 | exact cmr (by decide) (by decide) | exact cm (by decide) (by decide) | exact cm (by omega) (by omega) | exact ⟨by decide, by decide⟩ | (dsimp only; omega) | omega | assumption)
local macro_rules | `(tactic| wtm_at "s") => `(tactic| first | refine ⟨_, rfl, ?_⟩ | refine ⟨_, _, rfl, rfl, ?_⟩ | refine ⟨rfl, ?_⟩ | refine ⟨_, _, _, _, rfl, rfl, SqT.of (by wtm_at "h"), rfl, ?_⟩ | refine ⟨_, _, _, _, rfl, rfl, SqL.of (by wtm_at "h"), rfl, ?_⟩ | refine And.intro (by wtm_at "c") ?_)
local macro_rules | `(tactic| wtm_at "ss") => `(tactic| repeat wtm_at "s")
/-! ### what fits, and its rank -/
/-- its numbers are as a box from low to high lets them be -/
def Say.Fit1 (low high : Int) : Say → Prop
  | .is_ _ n | .nev _ n => low ≤ n ∧ n ≤ high
  | .frm _ n => low + 1 ≤ n ∧ n ≤ high
  | .to_ _ n => low ≤ n ∧ n ≤ high - 1
  | .rest _ m r => 2 ≤ m ∧ m ≤ 6 ∧ 0 ≤ r ∧ r ≤ m - 1
  | .eith _ n k => low ≤ n ∧ n ≤ k - 1 ∧ k ≤ high
  | _ => False
def Say.Fit2 (many : Nat) : Say → Prop
  | .same a b => a < b ∧ b < many
  | .below a b | .most a b => a ≠ b ∧ a < many ∧ b < many
  | .gap a b n => a < b ∧ b < many ∧ -20 ≤ n ∧ n ≤ 20 ∧ n ≠ 0
  | .sum a b n => a < b ∧ b < many ∧ -40 ≤ n ∧ n ≤ 40
  | .adds a b c | .times a b c => a < b ∧ b < many ∧ c < many ∧ c ≠ a ∧ c ≠ b
  | _ => False
def Say.ord : Say → Int
  | .is_ _ _ => 0 | .frm _ _ => 1 | .to_ _ _ => 2 | .rest _ _ _ => 3 | .eith _ _ _ => 4 | .nev _ _ => 5 | .same _ _ => 6 | .below _ _ => 7 | .most _ _ => 8 | .gap _ _ _ => 9 | .sum _ _ _ => 10 | .adds _ _ _ => 11 | .times _ _ _ => 12
def Say.rank (s : Say) : List Int := s.ord :: s.figs
def spOneFits : Sp := fun vs H Q _ => ∃ (p : Addr) (s : Say) (low high : Int), vs = [.ref p, .int low, .int high] ∧ H p = some (.tup s.tup) ∧ s.Fit1 low high ∧ Q (.bl true) H
def spMoreFits : Sp := fun vs H Q _ => ∃ (p : Addr) (s : Say) (many : Nat), vs = [.ref p, .int (many : Nat)] ∧ H p = some (.tup s.tup) ∧ s.Fit2 many ∧ Q (.bl true) H
section
variable {P : Program} {w : World} {K : PySem.W.Frag} {mg : Str → Option Value} {base : Heap}
theorem itd {c : Prop} [Decidable c] {A B : Prop} (hc : c) (h : A) : if (decide c) = true then A else B := by rw [if_pos (decide_eq_true hc)]; exact h
theorem iteNS' {c : Prop} [Decidable c] {A B : Prop} (hc : ¬ c) (h : A) : if (!decide c) = true then A else B := by rw [decide_eq_false hc]; exact h
theorem scOneFits : FnScope ["s", "low", "high", "n"] ["s", "low", "high"] (defScope sOneFits) := ⟨rfl, rfl, rfl, by decide +kernel, rfl, by decide +kernel, by decide +kernel⟩
theorem ok_oneFits (h : Has K mg "_law_one_fits" sOneFits ["s", "low", "high"]) (B : Blt mg) : Cal P w K mg base 1 "_law_one_fits" ["s", "low", "high"] spOneFits := by
  refine h.cal scOneFits (fun vs H Q E h => ?_) (fun f cdv A outer s H vs Q E hr h => ?_)
  · obtain ⟨p, s, l, hh, rfl, _⟩ := h
    rfl
  obtain ⟨p, s, low, high, rfl, hp, fit, q⟩ := h
  refine ⟨_, (pss_cons (ps_set (i := 3) scOneFits.nd rfl (Or.inl rfl) (pe_ix ix_tup (pv 0) pe_int (fun _ _ => rfl)))
    (pss_cons (ps_if (pt_cmpR op_eq (pe_ix ix_tup (pv 0) pe_int (fun _ _ => rfl)) pe_str (nomark _)) (pss_one (ps_ret (pe_and (pe_cmpR op_eq (pe_callB call_len_seq rfl B.len bt_len (pa_cons (pv 0) pa_nil)) pe_int (nomark _)) (pe_one (pe_chain op_le op_le (pe_op op_add (pv 1) pe_int) (pv 3) (pv 2)))))) pss_nil)
    (pss_cons (ps_if (pt_cmpR op_eq (pe_ix ix_tup (pv 0) pe_int (fun _ _ => rfl)) pe_str (nomark _)) (pss_one (ps_ret (pe_and (pe_cmpR op_eq (pe_callB call_len_seq rfl B.len bt_len (pa_cons (pv 0) pa_nil)) pe_int (nomark _)) (pe_one (pe_chain op_le op_le (pv 1) (pv 3) (pe_op op_sub (pv 2) pe_int)))))) pss_nil)
    (pss_cons (ps_if (pt_cmpR op_eq (pe_ix ix_tup (pv 0) pe_int (fun _ _ => rfl)) pe_str (nomark _)) (pss_one (ps_ret (pe_and (pe_cmpR op_eq (pe_callB call_len_seq rfl B.len bt_len (pa_cons (pv 0) pa_nil)) pe_int (nomark _)) (pe_and (pe_chain op_le op_le pe_int (pv 3) pe_int) (pe_one (pe_chain op_le op_le pe_int (pe_ix ix_tup (pv 0) pe_int (fun _ _ => rfl)) (pe_op op_sub (pv 3) pe_int))))))) pss_nil)
    (pss_cons (ps_if (pt_cmpR op_eq (pe_ix ix_tup (pv 0) pe_int (fun _ _ => rfl)) pe_str (nomark _)) (pss_one (ps_ret (pe_and (pe_cmpR op_eq (pe_callB call_len_seq rfl B.len bt_len (pa_cons (pv 0) pa_nil)) pe_int (nomark _)) (pe_and (pe_chain op_le op_le (pv 1) (pv 3) (pe_op op_sub (pe_ix ix_tup (pv 0) pe_int (fun _ _ => rfl)) pe_int)) (pe_one (pe_cmpR op_le (pe_ix ix_tup (pv 0) pe_int (fun _ _ => rfl)) (pv 2) (nomark _))))))) pss_nil)
    (pss_one (ps_ret (pe_and (pe_cmpR op_eq (pe_callB call_len_seq rfl B.len bt_len (pa_cons (pv 0) pa_nil)) pe_int (nomark _)) (pe_one (pe_chain op_le op_le (pv 1) (pv 3) (pv 2))))))))))), ?_⟩
  cases s with
  | is_ a n =>
    obtain ⟨f1, f2⟩ := fit
    wtm_at "ss"
    refine ⟨p, _, rfl, .inr (SqT.of hp), ?_⟩
    wtm_at "ss"
    refine itd (by omega) ?_
    wtm_at "ss"
    exact bl_eq q (decide_eq_true (by omega))
  | frm a n =>
    obtain ⟨f1, f2⟩ := fit
    wtm_at "ss"
    refine ⟨p, _, rfl, .inr (SqT.of hp), ?_⟩
    wtm_at "ss"
    refine itd (by omega) ?_
    wtm_at "ss"
    exact bl_eq q (decide_eq_true (by omega))
  | to_ a n =>
    obtain ⟨f1, f2⟩ := fit
    wtm_at "ss"
    refine ⟨p, _, rfl, .inr (SqT.of hp), ?_⟩
    wtm_at "ss"
    refine itd (by omega) ?_
    wtm_at "ss"
    exact bl_eq q (decide_eq_true (by omega))
  | nev a n =>
    obtain ⟨f1, f2⟩ := fit
    wtm_at "ss"
    refine ⟨p, _, rfl, .inr (SqT.of hp), ?_⟩
    wtm_at "ss"
    refine itd (by omega) ?_
    wtm_at "ss"
    exact bl_eq q (decide_eq_true (by omega))
  | rest a m r =>
    obtain ⟨f1, f2, f3, f4⟩ := fit
    wtm_at "ss"
    refine ⟨p, _, rfl, .inr (SqT.of hp), ?_⟩
    wtm_at "ss"
    refine itd (by omega) ?_
    wtm_at "ss"
    refine itd (by omega) ?_
    wtm_at "ss"
    refine itd (by omega) ?_
    wtm_at "ss"
    exact bl_eq q (decide_eq_true (by omega))
  | eith a n k =>
    obtain ⟨f1, f2, f3⟩ := fit
    wtm_at "ss"
    refine ⟨p, _, rfl, .inr (SqT.of hp), ?_⟩
    wtm_at "ss"
    refine itd (by omega) ?_
    wtm_at "ss"
    refine itd (by omega) ?_
    wtm_at "ss"
    exact bl_eq q (decide_eq_true (by omega))
  | _ => exact fit.elim
theorem scMoreFits : FnScope ["s", "many", "a", "b", "n"] ["s", "many"] (defScope sMoreFits) := ⟨rfl, rfl, rfl, by decide +kernel, rfl, by decide +kernel, by decide +kernel⟩
theorem ok_moreFits (h : Has K mg "_law_more_fits" sMoreFits ["s", "many"]) (B : Blt mg) : Cal P w K mg base 1 "_law_more_fits" ["s", "many"] spMoreFits := by
  refine h.cal scMoreFits (fun vs H Q E h => ?_) (fun f cdv A outer s H vs Q E hr h => ?_)
  · obtain ⟨p, s, l, rfl, _⟩ := h
    rfl
  obtain ⟨p, s, many, rfl, hp, fit, q⟩ := h
  refine ⟨_, (pss_cons (ps_set (i := 2) scMoreFits.nd rfl (Or.inl rfl) (pe_ix ix_tup (pv 0) pe_int (fun _ _ => rfl)))
    (pss_cons (ps_set (i := 3) scMoreFits.nd rfl (Or.inl rfl) (pe_ix ix_tup (pv 0) pe_int (fun _ _ => rfl)))
    (pss_cons (ps_if (PW.pt (pw_or (pt_not (pt_chain op_le op_lt pe_int (pv 3) (pv 1))) (pw_or1 (pt_cmpR op_eq (pv 2) (pv 3) (nomark _))))) (pss_one (ps_ret pe_bl)) pss_nil)
    (pss_cons (ps_if (PW.pt (pw_or (pt_cmpR op_eq (pe_ix ix_tup (pv 0) pe_int (fun _ _ => rfl)) pe_str (nomark _)) (pw_or1 (pt_cmpR op_eq (pe_ix ix_tup (pv 0) pe_int (fun _ _ => rfl)) pe_str (nomark _))))) (pss_one (ps_ret (pe_cmpR op_eq (pe_callB call_len_seq rfl B.len bt_len (pa_cons (pv 0) pa_nil)) pe_int (nomark _)))) pss_nil)
    (pss_cons (ps_if (pt_cmpR op_eq (pe_ix ix_tup (pv 0) pe_int (fun _ _ => rfl)) pe_str (nomark _)) (pss_one (ps_ret (pe_and (pe_cmpR op_eq (pe_callB call_len_seq rfl B.len bt_len (pa_cons (pv 0) pa_nil)) pe_int (nomark _)) (pe_one (pe_cmpR op_lt (pv 2) (pv 3) (nomark _)))))) pss_nil)
    (pss_cons (ps_if (PW.pt (pw_or (pt_cmpR op_ne (pe_callB call_len_seq rfl B.len bt_len (pa_cons (pv 0) pa_nil)) pe_int (nomark _)) (pw_or1 (pt_cmpR op_gt (pv 2) (pv 3) (nomark _))))) (pss_one (ps_ret pe_bl)) pss_nil)
    (pss_cons (ps_set (i := 4) scMoreFits.nd rfl (Or.inl rfl) (pe_ix ix_tup (pv 0) pe_int (fun _ _ => rfl)))
    (pss_cons (ps_if (pt_cmpR op_eq (pe_ix ix_tup (pv 0) pe_int (fun _ _ => rfl)) pe_str (nomark _)) (pss_one (ps_ret (pe_and (pe_chain op_le op_le (pe_un un_neg pe_int) (pv 4) pe_int) (pe_one (pe_cmpR op_ne (pv 4) pe_int (nomark _)))))) pss_nil)
    (pss_cons (ps_if (pt_cmpR op_eq (pe_ix ix_tup (pv 0) pe_int (fun _ _ => rfl)) pe_str (nomark _)) (pss_one (ps_ret (pe_chain op_le op_le (pe_un un_neg pe_int) (pv 4) pe_int))) pss_nil)
    (pss_one (ps_ret (pe_and (pe_chain op_le op_lt pe_int (pv 4) (pv 1)) (pe_and (pe_cmpR op_ne (pv 4) (pv 2) (nomark _)) (pe_one (pe_cmpR op_ne (pv 4) (pv 3) (nomark _)))))))))))))))), ?_⟩
  cases s with
  | below a b =>
    obtain ⟨f1, f2, f3⟩ := fit
    wtm_at "ss"
    refine iteNS (by omega) ?_
    wtm_at "ss"
    refine ite_f (fun z => by have := V.int.inj z; omega) ?_
    wtm_at "ss"
    refine ⟨p, _, rfl, .inr (SqT.of hp), ?_⟩
    wtm_at "ss"
    exact bl_eq q (decide_eq_true rfl)
  | most a b =>
    obtain ⟨f1, f2, f3⟩ := fit
    wtm_at "ss"
    refine iteNS (by omega) ?_
    wtm_at "ss"
    refine ite_f (fun z => by have := V.int.inj z; omega) ?_
    wtm_at "ss"
    refine ⟨p, _, rfl, .inr (SqT.of hp), ?_⟩
    wtm_at "ss"
    exact bl_eq q (decide_eq_true rfl)
  | same a b =>
    obtain ⟨f1, f2⟩ := fit
    wtm_at "ss"
    refine iteNS (by omega) ?_
    wtm_at "ss"
    refine ite_f (fun z => by have := V.int.inj z; omega) ?_
    wtm_at "ss"
    refine ⟨p, _, rfl, .inr (SqT.of hp), ?_⟩
    wtm_at "ss"
    exact bl_eq q (decide_eq_true (by omega))
  | gap a b n =>
    obtain ⟨f1, f2, f3, f4, f5⟩ := fit
    wtm_at "ss"
    refine iteNS (by omega) ?_
    wtm_at "ss"
    refine ite_f (fun z => by have := V.int.inj z; omega) ?_
    wtm_at "ss"
    refine ⟨p, _, rfl, .inr (SqT.of hp), ?_⟩
    wtm_at "ss"
    refine iteC (decide_eq_false (by omega)) ?_
    wtm_at "ss"
    refine itd (by omega) ?_
    wtm_at "ss"
    refine itd (by omega) ?_
    wtm_at "ss"
    refine bl_eq q ?_
    rw [decide_eq_false (fun z => f5 (V.int.inj z))]
    rfl
  | sum a b n =>
    obtain ⟨f1, f2, f3, f4⟩ := fit
    wtm_at "ss"
    refine iteNS (by omega) ?_
    wtm_at "ss"
    refine ite_f (fun z => by have := V.int.inj z; omega) ?_
    wtm_at "ss"
    refine ⟨p, _, rfl, .inr (SqT.of hp), ?_⟩
    wtm_at "ss"
    refine iteC (decide_eq_false (by omega)) ?_
    wtm_at "ss"
    refine itd (by omega) ?_
    wtm_at "ss"
    exact bl_eq q (decide_eq_true (by omega))
  | adds a b c =>
    obtain ⟨f1, f2, f3, f4, f5⟩ := fit
    wtm_at "ss"
    refine iteNS (by omega) ?_
    wtm_at "ss"
    refine ite_f (fun z => by have := V.int.inj z; omega) ?_
    wtm_at "ss"
    refine ⟨p, _, rfl, .inr (SqT.of hp), ?_⟩
    wtm_at "ss"
    refine iteC (decide_eq_false (by omega)) ?_
    wtm_at "ss"
    refine itd (by omega) ?_
    wtm_at "ss"
    refine iteNS' (fun z => by have := V.int.inj z; omega) ?_
    wtm_at "ss"
    refine bl_eq q ?_
    rw [decide_eq_false (fun z => by have := V.int.inj z; omega)]
    rfl
  | times a b c =>
    obtain ⟨f1, f2, f3, f4, f5⟩ := fit
    wtm_at "ss"
    refine iteNS (by omega) ?_
    wtm_at "ss"
    refine ite_f (fun z => by have := V.int.inj z; omega) ?_
    wtm_at "ss"
    refine ⟨p, _, rfl, .inr (SqT.of hp), ?_⟩
    wtm_at "ss"
    refine iteC (decide_eq_false (by omega)) ?_
    wtm_at "ss"
    refine itd (by omega) ?_
    wtm_at "ss"
    refine iteNS' (fun z => by have := V.int.inj z; omega) ?_
    wtm_at "ss"
    refine bl_eq q ?_
    rw [decide_eq_false (fun z => by have := V.int.inj z; omega)]
    rfl
  | _ => exact fit.elim
end
end K22

namespace K22
open PySem L2
local macro_rules | `(tactic| wtm_at "h") => `(tactic| first | assumption | exact upd_same)
local macro_rules | `(tactic| wtm_at "c") => `(tactic| first | exact p1018 | exact cmr (by decide) (by decide) | exact cm (by decide) (by decide) | exact cm (by omega) (by omega) | exact ⟨by decide, by decide⟩ | (dsimp only; omega) | omega | assumption)
local macro_rules | `(tactic| wtm_at "s") => `(tactic| first | refine ⟨_, rfl, ?_⟩ | refine ⟨_, _, rfl, rfl, ?_⟩ | refine ⟨rfl, ?_⟩ | refine ⟨_, _, _, _, rfl, rfl, SqT.of (by wtm_at "h"), rfl, ?_⟩ | refine ⟨_, _, _, _, rfl, rfl, SqL.of (by wtm_at "h"), rfl, ?_⟩ | refine And.intro (by wtm_at "c") ?_)
local macro_rules | `(tactic| wtm_at "ss") => `(tactic| repeat wtm_at "s")
/-! ### ranks, fits, count, good -/
theorem figs_len (s : Say) : 2 ≤ s.figs.length ∧ s.figs.length ≤ 3 := by cases s <;> first | exact ⟨(by decide : 2 ≤ 2), (by decide : 2 ≤ 3)⟩ | exact ⟨(by decide : 2 ≤ 3), (by decide : 3 ≤ 3)⟩
def orders : List Str := ["is", "from", "to", "rest", "either", "never", "same", "below", "most", "gap", "sum", "adds", "times"]
theorem ord_nat (s : Say) : ∃ i : Nat, s.ord = (i : Nat) ∧ orders[i]? = some s.head ∧ ∀ j, j < i → orders[j]? ≠ some s.head := by
  have key : ∀ i : Nat, i < 13 → ∀ j, j < i → orders[j]? ≠ orders[i]? := by decide +kernel
  cases s with
  | is_ a n => exact ⟨0, rfl, rfl, fun j hj => key 0 (by decide) j hj⟩
  | frm a n => exact ⟨1, rfl, rfl, fun j hj => key 1 (by decide) j hj⟩
  | to_ a n => exact ⟨2, rfl, rfl, fun j hj => key 2 (by decide) j hj⟩
  | rest a m r => exact ⟨3, rfl, rfl, fun j hj => key 3 (by decide) j hj⟩
  | eith a n k => exact ⟨4, rfl, rfl, fun j hj => key 4 (by decide) j hj⟩
  | nev a n => exact ⟨5, rfl, rfl, fun j hj => key 5 (by decide) j hj⟩
  | same a b => exact ⟨6, rfl, rfl, fun j hj => key 6 (by decide) j hj⟩
  | below a b => exact ⟨7, rfl, rfl, fun j hj => key 7 (by decide) j hj⟩
  | most a b => exact ⟨8, rfl, rfl, fun j hj => key 8 (by decide) j hj⟩
  | gap a b n => exact ⟨9, rfl, rfl, fun j hj => key 9 (by decide) j hj⟩
  | sum a b n => exact ⟨10, rfl, rfl, fun j hj => key 10 (by decide) j hj⟩
  | adds a b c => exact ⟨11, rfl, rfl, fun j hj => key 11 (by decide) j hj⟩
  | times a b c => exact ⟨12, rfl, rfl, fun j hj => key 12 (by decide) j hj⟩
theorem in_orders (s : Say) : inV (.str s.head) (orders.map V.str) = true := by
  obtain ⟨i, _, h, _⟩ := ord_nat s
  unfold inV
  rw [List.any_map, List.any_eq_true]
  refine ⟨s.head, List.mem_of_getElem? h, ?_⟩
  show (s.head == s.head) = true
  exact beq_self_eq_true _
def spRank : Sp := fun vs H Q _ => ∃ (p : Addr) (s : Say), vs = [.ref p] ∧ H p = some (.tup s.tup) ∧ ∀ (p' : Addr) (H' : Hp), Same H H' → H' p' = some (.tup (s.rank.map V.int)) → Q (.ref p') H'
def spFits : Sp := fun vs H Q _ => ∃ (p pb : Addr) (s : Say) (us : List V) (bs : List Box), vs = [.ref p, .ref pb] ∧ H p = some (.tup s.tup) ∧ BoxesAt H pb us bs ∧ ((∃ b, bs[s.fst]? = some b ∧ s.Fit1 b.lo b.hi) ∨ s.Fit2 bs.length) ∧ ∀ H', Same H H' → Q (.bl true) H'
section
variable {P : Program} {w : World} {K : PySem.W.Frag} {mg : Str → Option Value} {base : Heap}
theorem scRank : FnScope ["s", "order", "n"] ["s"] (defScope sRank) := ⟨rfl, rfl, rfl, by decide +kernel, rfl, by decide +kernel, by decide +kernel⟩
theorem ok_rank (h : Has K mg "_law_rank" sRank ["s"]) (B : Blt mg) : Cal P w K mg base 1 "_law_rank" ["s"] spRank := by
  refine h.cal scRank (fun vs H Q E h => ?_) (fun f cdv A outer s H vs Q E hr h => ?_)
  · obtain ⟨p, s, rfl, _⟩ := h
    rfl
  obtain ⟨p, s, rfl, hp, q⟩ := h
  refine ⟨_, (@pss_cons _ _ _ _ _ (@ps_set _ _ 1 _ _ _ _ scRank.nd rfl (Or.inl rfl) (@pe_lst _ _ _ _ (@pa_cons _ _ _ _ _ pe_str (@pa_cons _ _ _ _ _ pe_str (@pa_cons _ _ _ _ _ pe_str (@pa_cons _ _ _ _ _ pe_str (@pa_cons _ _ _ _ _ pe_str (@pa_cons _ _ _ _ _ pe_str (@pa_cons _ _ _ _ _ pe_str (@pa_cons _ _ _ _ _ pe_str (@pa_cons _ _ _ _ _ pe_str (@pa_cons _ _ _ _ _ pe_str (@pa_cons _ _ _ _ _ pe_str (@pa_cons _ _ _ _ _ pe_str (@pa_cons _ _ _ _ _ pe_str pa_nil rfl) rfl) rfl) rfl) rfl) rfl) rfl) rfl) rfl) rfl) rfl) rfl) rfl)) rfl (Or.inl rfl))
    (pss_cons (ps_if (PW.pt (pw_or (pt_not (pt_val (pe_callB call_isinst rfl B.isinstance bt_isinstance (pa_cons (pv 0) (pa_cons (pe_bltn (v := .ty "tuple") rfl B.tuple bt_tuple rfl) pa_nil))))) (pw_or (pt_cmpR op_lt (pe_callB call_len_seq rfl B.len bt_len (pa_cons (pv 0) pa_nil)) pe_int (nomark _)) (pw_or1 (pt_cmpR op_notIn_seq (pe_ix ix_tup (pv 0) pe_int (fun _ _ => rfl)) (pv 1) (by with_unfolding_all rfl)))))) (pss_one (ps_ret pe_non)) pss_nil)
    (pss_cons (ps_for PassesOwn.never rfl (pi_tup (pe_slice sl_tup (pv 0) (po_some pe_int) po_none)) (pg_name (i := 2) scRank.nd rfl (Or.inl rfl)) (pss_one (ps_if (PW.pt (pw_or (pt_not (pt_val (pe_callB call_isinst rfl B.isinstance bt_isinstance (pa_cons (pv 2) (pa_cons (pe_bltn (v := .ty "int") rfl B.int bt_int rfl) pa_nil))))) (pw_or1 (pt_val (pe_callB call_isinst rfl B.isinstance bt_isinstance (pa_cons (pv 2) (pa_cons (pe_bltn (v := .ty "bool") rfl B.bool bt_bool rfl) pa_nil))))))) (pss_one (ps_ret pe_non)) pss_nil)))
    (pss_one (ps_ret (pe_op op_catE (pe_tup (pa_cons (pe_bm PySem.F.plainAttrs_list PySem.F.slot_list_index PySem.F.type_list_index mt_indexS (pv 1) (pa_cons (pe_ix ix_tup (pv 0) pe_int (fun _ _ => rfl)) pa_nil)) pa_nil)) (pe_slice sl_tup (pv 0) (po_some pe_int) po_none))))))), ?_⟩
  have fl := figs_len s
  refine ⟨(by show 13 ≤ sizeLine; decide), fun po hpo => ?_⟩
  have e1 := Same.new hpo (.lst (orders.map V.str))
  have o1 : upd H po (.lst (orders.map V.str)) po = some (.lst (orders.map V.str)) := upd_same
  have hp1 := e1 _ _ hp
  have hp2 := hp1
  rw [s.tup_eq] at hp2
  show tSeq _ _ _ _ (upd H po (.lst (orders.map V.str)))
  generalize upd H po (.lst (orders.map V.str)) = H1 at *
  refine ⟨_, rfl, _, _, _, _, rfl, .tup hp1, kit_same K "tuple", _, rfl, iteF ?_⟩
  refine ⟨_, rfl, p, _, rfl, .inr (SqT.of hp2), _, _, rfl, rfl, _, rfl, ?_⟩
  refine iteC (decide_eq_false ?_) ?_
  · rw [List.length_cons, List.length_map]
    omega
  refine ⟨_, rfl, p, _, _, _, rfl, rfl, SqT.of hp2, at0, _, rfl, po, _, rfl, .inl (SqL.of o1), rfl, ?_, _, rfl, ?_⟩
  · rw [List.all_map, List.all_eq_true]
    intro k _
    rfl
  rw [if_pos rfl, in_orders]
  refine iteF ?_
  have ncut : ¬ (HT.sIx (V.str s.head :: s.figs.map V.int).length 0 (some (1 : Int)) = 0 ∧ HT.sIx (V.str s.head :: s.figs.map V.int).length (V.str s.head :: s.figs.map V.int).length (none : Option Int) = (V.str s.head :: s.figs.map V.int).length) := by
    rintro ⟨z, _⟩
    have : (if (1 : Int) < 0 then ((1 : Int) + ((V.str s.head :: s.figs.map V.int).length : Int)).toNat else Nat.min (1 : Int).toNat (V.str s.head :: s.figs.map V.int).length) = 0 := z
    rw [if_neg (by decide)] at this
    have e2 : Nat.min (1 : Int).toNat (V.str s.head :: s.figs.map V.int).length = 1 := Nat.min_eq_left (by simp)
    omega
  refine ⟨_, rfl, _, rfl, p, _, rfl, SqT.of hp2, ncut, fun pc hpc => ?_⟩
  rw [cut_tail]
  have e2 := Same.new hpc (.tup (s.figs.map V.int))
  have c2 : upd H1 pc (.tup (s.figs.map V.int)) pc = some (.tup (s.figs.map V.int)) := upd_same
  generalize upd H1 pc (.tup (s.figs.map V.int)) = H2 at *
  refine ⟨pc, rfl, ⟨_, SqT.of c2⟩, for_tup (K := K) (a := pc) (xs := s.figs.map V.int) (fun i σ H' => (∃ c : Option V, σ = [some (.ref p), some (.ref po), c]) ∧ H' = H2)
    ⟨⟨none, rfl⟩, rfl⟩ (fun i σ H' _ ⟨_, e⟩ => by rw [e]; exact SqT.of c2) ?_ ?_⟩
  · rintro i x σ H' hi ⟨⟨c, rfl⟩, rfl⟩
    obtain ⟨n, _, rfl⟩ := List.mem_map.mp (List.mem_of_getElem? hi)
    refine ⟨_, rfl, _, _, _, _, rfl, .int _, kit_same K "int", _, rfl, iteF ?_⟩
    refine ⟨_, rfl, _, _, _, _, rfl, .int _, kit_ib K, _, rfl, iteF ?_⟩
    exact ⟨⟨_, rfl⟩, rfl⟩
  rintro σ H' ⟨⟨c, rfl⟩, rfl⟩
  have hp3 := e2 _ _ hp2
  have o3 := e2 _ _ o1
  obtain ⟨k, hk, hko, hkn⟩ := ord_nat s
  refine ⟨_, rfl, .inl ⟨rfl, _, SqL.of o3⟩, _, rfl, p, _, _, _, rfl, rfl, SqT.of hp3, at0, po, orders, s.head, k, rfl, rfl, o3, by decide, hko, hkn, ?_⟩
  refine ⟨(by show 1 ≤ sizeLine; decide), fun pa hpa => ?_⟩
  have e4 := Same.new hpa (.tup [.int (k : Nat)])
  have a4 : upd H' pa (.tup [.int (k : Nat)]) pa = some (.tup [.int (k : Nat)]) := upd_same
  generalize upd H' pa (.tup [.int (k : Nat)]) = H4 at *
  refine ⟨_, rfl, _, rfl, p, _, rfl, SqT.of (e4 _ _ hp3), ncut, fun pd hpd => ?_⟩
  rw [cut_tail]
  have e5 := Same.new hpd (.tup (s.figs.map V.int))
  refine ⟨pa, pd, _, _, rfl, rfl, e5 _ _ a4, upd_same, sz' (by rw [List.length_singleton, List.length_map]; omega), fun pr H6 e6 r6 => ?_⟩
  refine q pr H6 ((((e1.trans e2).trans e4).trans e5).trans e6) ?_
  rw [r6]
  unfold Say.rank
  rw [hk]
  rfl
theorem scFits : FnScope ["s", "boxes"] ["s", "boxes"] (defScope sFits) := ⟨rfl, rfl, rfl, by decide +kernel, rfl, by decide +kernel, by decide +kernel⟩
theorem fit_in {s : Say} {bs : List Box} (h : (∃ b, bs[s.fst]? = some b ∧ s.Fit1 b.lo b.hi) ∨ s.Fit2 bs.length) : s.fst < bs.length := by
  rcases h with ⟨b, hb, _⟩ | h
  · exact (List.getElem?_eq_some_iff.mp hb).1
  · cases s with
    | same a b => have := h.1; have := h.2; show a < _; omega
    | below a b => exact h.2.1
    | most a b => exact h.2.1
    | gap a b n => have := h.1; have := h.2.1; show a < _; omega
    | sum a b n => have := h.1; have := h.2.1; show a < _; omega
    | adds a b c => have := h.1; have := h.2.1; show a < _; omega
    | times a b c => have := h.1; have := h.2.1; show a < _; omega
    | _ => exact h.elim
theorem at_fst (s : Say) : atI s.tup 1 = some (.int (s.fst : Nat)) := by cases s <;> rfl
theorem at_hd (s : Say) : atI s.tup 0 = some (.str s.head) := by cases s <;> rfl
theorem in_ones (s : Say) : inV (.str s.head) [.str "is", .str "from", .str "to", .str "rest", .str "either", .str "never"] = s.one := by
  have key : ∀ i : Nat, i < 13 → inV (.str ((orders[i]?).getD "")) [.str "is", .str "from", .str "to", .str "rest", .str "either", .str "never"] = decide (i < 6) := by decide +kernel
  cases s with
  | is_ a n => exact key 0 (by decide)
  | frm a n => exact key 1 (by decide)
  | to_ a n => exact key 2 (by decide)
  | rest a m r => exact key 3 (by decide)
  | eith a n k => exact key 4 (by decide)
  | nev a n => exact key 5 (by decide)
  | same a b => exact key 6 (by decide)
  | below a b => exact key 7 (by decide)
  | most a b => exact key 8 (by decide)
  | gap a b n => exact key 9 (by decide)
  | sum a b n => exact key 10 (by decide)
  | adds a b c => exact key 11 (by decide)
  | times a b c => exact key 12 (by decide)
theorem ok_fits (h : Has K mg "_law_fits" sFits ["s", "boxes"]) (B : Blt mg) (c1 : Cal P w K mg base 1 "_law_one_fits" ["s", "low", "high"] spOneFits) (c2 : Cal P w K mg base 1 "_law_more_fits" ["s", "many"] spMoreFits) : Cal P w K mg base 2 "_law_fits" ["s", "boxes"] spFits := by
  refine h.cal scFits (fun vs H Q E h => ?_) (fun f cdv A outer s H vs Q E hr h => ?_)
  · obtain ⟨p, pb, s, us, bs, rfl, _⟩ := h
    rfl
  obtain ⟨p, pb, s, us, bs, rfl, hp, X, hf, q⟩ := h
  refine ⟨_, (pss_cons (ps_if (pt_not (pt_chain op_le op_lt pe_int (pe_ix ix_tup (pv 0) pe_int (fun _ _ => rfl)) (pe_callB call_len_seq rfl B.len bt_len (pa_cons (pv 1) pa_nil)))) (pss_one (ps_ret pe_bl)) pss_nil)
    (pss_cons (ps_if (pt_cmpR op_in_seq (pe_ix ix_tup (pv 0) pe_int (fun _ _ => rfl)) (pe_tup (pa_cons pe_str (pa_cons pe_str (pa_cons pe_str (pa_cons pe_str (pa_cons pe_str (pa_cons pe_str pa_nil))))))) (by with_unfolding_all rfl)) (pss_one (ps_ret (pe_cal c1 hr rfl (pa_cons (pv 0) (pa_cons (pe_ix ix_tup (pe_ix ix_list (pv 1) (pe_ix ix_tup (pv 0) pe_int (fun _ _ => rfl)) (fun _ _ => rfl)) pe_int (fun _ _ => rfl)) (pa_cons (pe_ix ix_tup (pe_ix ix_list (pv 1) (pe_ix ix_tup (pv 0) pe_int (fun _ _ => rfl)) (fun _ _ => rfl)) pe_int (fun _ _ => rfl)) pa_nil)))))) pss_nil)
    (pss_one (ps_ret (pe_cal c2 hr rfl (pa_cons (pv 0) (pa_cons (pe_callB call_len_seq rfl B.len bt_len (pa_cons (pv 1) pa_nil)) pa_nil))))))), ?_⟩
  have hfi := fit_in hf
  have hl := X.each.1
  refine ⟨_, rfl, p, _, _, _, rfl, rfl, SqT.of hp, at_fst s, _, _, rfl, rfl, _, rfl, ?_⟩
  refine itd (by omega) ?_
  refine ⟨_, rfl, pb, _, rfl, .inl (SqL.of X.at_), _, _, rfl, rfl, _, rfl, ?_⟩
  refine iteNS (by omega) ?_
  refine ⟨_, rfl, p, _, _, _, rfl, rfl, SqT.of hp, at_hd s, (by show 6 ≤ sizeLine; decide), fun t ht => ?_⟩
  have e1 := Same.new ht (.tup [.str "is", .str "from", .str "to", .str "rest", .str "either", .str "never"])
  refine ⟨t, _, rfl, .inr (SqT.of upd_same), rfl, rfl, _, rfl, ?_⟩
  rw [if_neg Bool.false_ne_true, in_ones]
  have X1 := X.same e1
  have hp1 := e1 _ _ hp
  generalize upd H t (.tup [.str "is", .str "from", .str "to", .str "rest", .str "either", .str "never"]) = H1 at *
  rcases hf with ⟨b, hb, f1⟩ | f2
  · have h1 : s.one = true := by cases s <;> first | rfl | exact f1.elim
    rw [h1]
    refine iteT ?_
    have hau : s.fst < us.length := by omega
    obtain ⟨b', hb', pB, eB, hB⟩ := X1.each.at (List.getElem?_eq_getElem hau)
    rw [hb] at hb'
    cases hb'
    have hau' : us[s.fst]? = some (.ref pB) := by rw [List.getElem?_eq_getElem hau, eB]
    refine ⟨_, rfl, _, rfl, _, rfl, p, _, _, _, rfl, rfl, SqT.of hp1, at_fst s, pb, _, _, _, rfl, rfl, SqL.of X1.at_, atI_nat hau', pB, _, _, _, rfl, rfl, SqT.of hB, rfl, ?_⟩
    refine ⟨_, rfl, _, rfl, p, _, _, _, rfl, rfl, SqT.of hp1, at_fst s, pb, _, _, _, rfl, rfl, SqL.of X1.at_, atI_nat hau', pB, _, _, _, rfl, rfl, SqT.of hB, rfl, ?_⟩
    exact ⟨p, s, b.lo, b.hi, rfl, hp1, f1, q _ e1⟩
  · have h1 : s.one = false := by cases s <;> first | rfl | exact f2.elim
    rw [h1]
    refine iteF ?_
    exact ⟨_, rfl, _, rfl, pb, _, rfl, .inl (SqL.of X1.at_), p, s, bs.length, by rw [hl]; rfl, hp1, f2, q _ e1⟩
end
end K22

namespace K22
open PySem L2
local macro_rules | `(tactic| wtm_at "h") => `(tactic| first | assumption | exact upd_same)
local macro_rules | `(tactic| wtm_at "c") => `(tactic| first | exact p1018 | exact cmr (by decide) (by decide) | exact cm (by decide) (by decide) | exact cm (by omega) (by omega) | exact ⟨by decide, by decide⟩ | (dsimp only; omega) | omega | assumption)
local macro_rules | `(tactic| wtm_at "s") => `(tactic| first | refine ⟨_, rfl, ?_⟩ | refine ⟨_, _, rfl, rfl, ?_⟩ | refine ⟨rfl, ?_⟩ | refine ⟨_, _, _, _, rfl, rfl, SqT.of (by wtm_at "h"), rfl, ?_⟩ | refine ⟨_, _, _, _, rfl, rfl, SqL.of (by wtm_at "h"), rfl, ?_⟩ | refine And.intro (by wtm_at "c") ?_)
local macro_rules | `(tactic| wtm_at "ss") => `(tactic| repeat wtm_at "s")
/-! ### count; good -/
def cbF (t : Int) (b : Box) : Int := t + 4 * (b.hi - b.lo + 1) - 2 + 20 + (b.hi - b.lo + 1) * (b.hi - b.lo + 1 - 1) / 2
def cnt (bs : List Box) : Int := bs.foldl cbF 0 + (bs.length : Int) * ((bs.length : Int) - 1) / 2 * (1 + 2 + 2 + 40 + 81) + 2 * ((bs.length : Int) * ((bs.length : Int) - 1) / 2) * ((bs.length : Int) - 2)
def spCount : Sp := fun vs H Q _ => ∃ (pb : Addr) (us : List V) (bs : List Box), vs = [.ref pb] ∧ BoxesAt H pb us bs ∧ (∀ b ∈ bs, b.Ok) ∧ bs.length ≤ 4 ∧ Q (.int (cnt bs)) H
/-- each is above the one ahead -/
def asc : List Int → List (List Int) → Bool
  | _, [] => true
  | l, x :: xs => HT.lexLt l x && asc x xs
structure Tells (bs : List Box) (ss : List Say) : Prop where
  len : ((ss.length : Nat) : Int) = cnt bs
  asc : asc [-1] (ss.map Say.rank) = true
  fit : ∀ s ∈ ss, (∃ b, bs[s.fst]? = some b ∧ s.Fit1 b.lo b.hi) ∨ s.Fit2 bs.length
def spGood : Sp := fun vs H Q _ => ∃ (pt pb : Addr) (ut ub : List V) (ss : List Say) (bs : List Box), vs = [.ref pt, .ref pb] ∧ SaysAt H pt ut ss ∧ BoxesAt H pb ub bs ∧ (∀ b ∈ bs, b.Ok) ∧ bs.length ≤ 4 ∧ Tells bs ss ∧ ∀ H', Same H H' → Q (.bl true) H'
theorem cut_asc : ∀ {ss : List (List Int)} {l x : List Int} {i : Nat}, asc l ss = true → ss[i]? = some x → HT.lexLt ((l :: ss).getD i []) x = true
  | [], _, _, i, _, h => by simp at h
  | y :: ss, l, x, 0, h, e => by
    cases e
    exact (Bool.and_eq_true_iff.mp h).1
  | y :: ss, l, x, i + 1, h, e => by
    have := cut_asc (ss := ss) (l := y) (x := x) (i := i) (Bool.and_eq_true_iff.mp h).2 e
    exact this
section
variable {P : Program} {w : World} {K : PySem.W.Frag} {mg : Str → Option Value} {base : Heap}
theorem scCount : FnScope ["boxes", "total", "many", "pairs", "name", "low", "high", "first", "wide"] ["boxes"] (defScope sCount) := ⟨rfl, rfl, rfl, by decide +kernel, rfl, by decide +kernel, by decide +kernel⟩
theorem ok_count (h : Has K mg "_law_count" sCount ["boxes"]) (B : Blt mg) : Cal P w K mg base 1 "_law_count" ["boxes"] spCount := by
  refine h.cal scCount (fun vs H Q E h => ?_) (fun f cdv A outer s H vs Q E hr h => ?_)
  · obtain ⟨pb, us, bs, rfl, _⟩ := h
    rfl
  obtain ⟨pb, us, bs, rfl, X, ok, l4, q⟩ := h
  refine ⟨_, (pss_cons (ps_set (i := 1) scCount.nd rfl (Or.inl rfl) pe_int)
    (pss_cons (ps_for PassesOwn.never rfl (pi_list (pv 0)) (pg_tup rfl (pgs_cons (pg_name (i := 4) scCount.nd rfl (Or.inl rfl)) (pgs_cons (pg_name (i := 5) scCount.nd rfl (Or.inl rfl)) (pgs_cons (pg_name (i := 6) scCount.nd rfl (Or.inl rfl)) (pgs_cons (pg_name (i := 7) scCount.nd rfl (Or.inl rfl)) pgs_nil))))) (pss_cons (ps_set (i := 8) scCount.nd rfl (Or.inl rfl) (pe_op op_add (pe_op op_sub (pv 6) (pv 5)) pe_int))
    (pss_one (ps_set (i := 1) scCount.nd rfl (Or.inl rfl) (pe_op op_add (pe_op op_add (pe_op op_sub (pe_op op_add (pv 1) (pe_op op_mul pe_int (pv 8))) pe_int) pe_int) (pe_op op_fdiv (pe_op op_mul (pv 8) (pe_op op_sub (pv 8) pe_int)) pe_int))))))
    (pss_cons (ps_set (i := 2) scCount.nd rfl (Or.inl rfl) (pe_callB call_len_seq rfl B.len bt_len (pa_cons (pv 0) pa_nil)))
    (pss_cons (ps_set (i := 3) scCount.nd rfl (Or.inl rfl) (pe_op op_fdiv (pe_op op_mul (pv 2) (pe_op op_sub (pv 2) pe_int)) pe_int))
    (pss_one (ps_ret (pe_op op_add (pe_op op_add (pv 1) (pe_op op_mul (pv 3) (pe_op op_add (pe_op op_add (pe_op op_add (pe_op op_add pe_int pe_int) pe_int) pe_int) pe_int))) (pe_op op_mul (pe_op op_mul pe_int (pv 3)) (pe_op op_sub (pv 2) pe_int))))))))), ?_⟩
  have hl := X.each.1
  refine ⟨_, rfl, pb, rfl, ⟨us, SqL.of X.at_⟩, for_list (K := K) (a := pb) (xs := us) (fun i σ H' => (∃ c1 c2 c3 c4 c5 : Option V, σ = [some (.ref pb), some (.int ((bs.take i).foldl cbF 0)), none, none, c1, c2, c3, c4, c5]) ∧ H' = H)
    ⟨⟨none, none, none, none, none, rfl⟩, rfl⟩ (fun i σ H' _ ⟨_, e⟩ => by rw [e]; exact SqL.of X.at_) ?_ ?_⟩
  · rintro i x σ H' hi ⟨⟨c1, c2, c3, c4, c5, rfl⟩, e⟩
    rw [e]
    obtain ⟨b, hb, p, rfl, hp⟩ := X.each.at hi
    have bok := ok b (List.mem_of_getElem? hb)
    have h1 := bok.fl
    have h2 := bok.fh
    have h3 := bok.w
    refine ⟨p, _, rfl, SqT.of hp, rfl, _, _, rfl, _, _, rfl, _, _, rfl, _, _, rfl, rfl, ?_⟩
    refine ⟨_, rfl, _, rfl, _, _, rfl, rfl, _, _, rfl, rfl, ?_⟩
    refine ⟨_, rfl, _, rfl, _, _, rfl, rfl, cm (by omega) (by omega), _, _, rfl, rfl, _, _, rfl, rfl, _, _, rfl, rfl, ?_⟩
    refine ⟨_, rfl, _, rfl, _, _, rfl, rfl, _, _, rfl, rfl, cm (by first | omega | (dsimp only; omega)) (by first | omega | (dsimp only; omega)), _, _, rfl, rfl, ⟨by decide, by decide⟩, _, _, rfl, rfl, ?_⟩
    have hfs : (bs.take (i + 1)).foldl cbF 0 = cbF ((bs.take i).foldl cbF 0) b := by
      rw [List.take_add_one, hb, List.foldl_append]
      rfl
    exact ⟨⟨_, _, _, _, _, by rw [hfs]; rfl⟩, rfl⟩
  · rintro σ H' ⟨⟨c1, c2, c3, c4, c5, rfl⟩, e⟩
    rw [e, hl, List.take_length]
    have hd : 0 ≤ (bs.length : Int) * ((bs.length : Int) - 1) / 2 ∧ (bs.length : Int) * ((bs.length : Int) - 1) / 2 ≤ 6 := by
      have : bs.length = 0 ∨ bs.length = 1 ∨ bs.length = 2 ∨ bs.length = 3 ∨ bs.length = 4 := by omega
      rcases this with z | z | z | z | z <;> rw [z] <;> decide
    obtain ⟨d1, d2⟩ := hd
    refine ⟨_, rfl, pb, _, rfl, .inl (SqL.of X.at_), ?_⟩
    rw [hl]
    refine ⟨_, rfl, _, rfl, _, _, rfl, rfl, _, _, rfl, rfl, cm (by omega) (by first | omega | (dsimp only; omega)), _, _, rfl, rfl, ⟨by decide, by decide⟩, ?_⟩
    refine ⟨_, rfl, _, rfl, _, _, rfl, rfl, _, _, rfl, rfl, _, _, rfl, rfl, _, _, rfl, rfl, _, _, rfl, rfl, cm (by first | omega | (dsimp only; omega)) (by first | omega | (dsimp only; omega)), _, _, rfl, rfl, ?_⟩
    refine ⟨_, rfl, _, _, rfl, rfl, cm (by first | omega | (dsimp only; omega)) (by first | omega | (dsimp only; omega)), _, rfl, _, _, rfl, rfl, _, _, rfl, rfl, cm (by first | omega | (dsimp only; omega)) (by first | omega | (dsimp only; omega)), _, _, rfl, rfl, ?_⟩
    exact q
theorem scGood : FnScope ["told", "boxes", "last", "s", "rank"] ["told", "boxes"] (defScope sGood) := ⟨rfl, rfl, rfl, by decide +kernel, rfl, by decide +kernel, by decide +kernel⟩
theorem ok_good (h : Has K mg "_law_good" sGood ["told", "boxes"]) (B : Blt mg) (cC : Cal P w K mg base 1 "_law_count" ["boxes"] spCount) (cR : Cal P w K mg base 1 "_law_rank" ["s"] spRank) (cF : Cal P w K mg base 2 "_law_fits" ["s", "boxes"] spFits) : Cal P w K mg base 3 "_law_good" ["told", "boxes"] spGood := by
  refine h.cal scGood (fun vs H Q E h => ?_) (fun f cdv A outer s H vs Q E hr h => ?_)
  · obtain ⟨pt, pb, ut, ub, ss, bs, rfl, _⟩ := h
    rfl
  obtain ⟨pt, pb, ut, ub, ss, bs, rfl, Y, X, ok, l4, T, q⟩ := h
  have hr2 : Room 2 _ := hr
  have hr1 : Room 1 _ := hr.mono (by decide)
  have hu0 := Nat.lt_of_le_of_lt (Nat.le_add_right _ 64) hr1.units
  refine ⟨_, (pss_cons (ps_if (PW.pt (pw_or (pt_not (pt_val (pe_callB call_isinst rfl B.isinstance bt_isinstance (pa_cons (pv 0) (pa_cons (pe_bltn (v := .ty "list") rfl B.list bt_list rfl) pa_nil))))) (pw_or1 (pt_cmpR op_ne (pe_callB call_len_seq rfl B.len bt_len (pa_cons (pv 0) pa_nil)) (pe_cal cC hr1 rfl (pa_cons (pv 1) pa_nil)) (nomark _))))) (pss_one (ps_ret pe_bl)) pss_nil)
    (pss_cons (ps_set (i := 2) scGood.nd rfl (Or.inl rfl) (pe_tup (pa_cons (pe_un un_neg pe_int) pa_nil)))
    (pss_cons (ps_for PassesOwn.never rfl (pi_list (pv 0)) (pg_name (i := 3) scGood.nd rfl (Or.inl rfl)) (pss_cons (ps_set (i := 4) scGood.nd rfl (Or.inl rfl) (pe_cal cR hr1 rfl (pa_cons (pv 3) pa_nil)))
    (pss_cons (ps_if (PW.pt (pw_or (pt_cmp (pc_isN (pv 4))) (pw_or (pt_not (pt_cmpR (op_gtT hu0) (pv 4) (pv 2) (nomark _))) (pw_or1 (pt_not (pt_val (pe_cal cF hr2 rfl (pa_cons (pv 3) (pa_cons (pv 1) pa_nil))))))))) (pss_one (ps_ret pe_bl)) pss_nil)
    (pss_one (ps_set (i := 2) scGood.nd rfl (Or.inl rfl) (pv 4))))))
    (pss_one (ps_ret pe_bl))))), ?_⟩
  have hl := Y.each.1
  refine ⟨_, rfl, _, _, _, _, rfl, .lst Y.at_, kit_same K "list", _, rfl, iteF ?_⟩
  refine ⟨_, rfl, pt, _, rfl, .inl (SqL.of Y.at_), _, rfl, pb, ub, bs, rfl, X, ok, l4, rfl, _, rfl, ?_⟩
  refine iteNS (by rw [hl, T.len]) ?_
  refine ⟨_, rfl, (by show 1 ≤ sizeLine; decide), fun p0 hp0 => ?_⟩
  have e0 := Same.new hp0 (.tup [.int (-1)])
  have h0 : upd H p0 (.tup [.int (-1)]) p0 = some (.tup (([-1] : List Int).map V.int)) := upd_same
  refine ⟨_, rfl, pt, rfl, ⟨_, SqL.of (e0 _ _ Y.at_)⟩, for_list (K := K) (a := pt) (xs := ut) (fun i σ H' => (∃ (pl : Addr) (c3 c4 : Option V), σ = [some (.ref pt), some (.ref pb), some (.ref pl), c3, c4] ∧ H' pl = some (.tup ((([-1] :: ss.map Say.rank).getD i []).map V.int))) ∧ Same H H')
    ⟨⟨p0, none, none, rfl, h0⟩, e0⟩ (fun i σ H' _ ⟨_, e⟩ => SqL.of (e _ _ Y.at_)) ?_ ?_⟩
  · rintro i x σ H' hi ⟨⟨pl, c3, c4, rfl, hpl⟩, e⟩
    obtain ⟨s, hs, p, rfl, hp⟩ := Y.each.at hi
    refine ⟨_, rfl, p, s, rfl, e _ _ hp, fun pr H2 e2 r2 => ?_⟩
    have hm : (ss.map Say.rank)[i]? = some s.rank := by rw [List.getElem?_map, hs]; rfl
    have hlt := cut_asc T.asc hm
    refine ⟨_, rfl, _, rfl, iteC (decide_eq_false (fun z => nomatch z)) ?_⟩
    refine ⟨_, rfl, _, rfl, pr, pl, _, _, rfl, rfl, r2, e2 _ _ hpl, _, rfl, ?_⟩
    rw [hlt]
    refine iteF ?_
    have e12 := e.trans e2
    refine ⟨_, rfl, _, rfl, p, pb, s, ub, bs, rfl, e12 _ _ hp, X.same e12, T.fit s (List.mem_of_getElem? hs), fun H3 e3 => ?_⟩
    refine ⟨_, rfl, iteF ?_⟩
    refine ⟨_, rfl, ⟨pr, _, _, rfl, ?_⟩, e12.trans e3⟩
    rw [e3 _ _ r2]
    congr 3
    rw [List.getD_eq_getElem?_getD]
    show s.rank = ((ss.map Say.rank)[i]?).getD []
    rw [hm]
    rfl
  · rintro σ H' ⟨⟨pl, c3, c4, rfl, hpl⟩, e⟩
    exact q H' e
end
end K22

namespace K22
open PySem L2
local macro_rules | `(tactic| wtm_at "h") => `(tactic| first | assumption | exact upd_same)
local macro_rules | `(tactic| wtm_at "c") => `(tactic| first | exact p1018 | exact cmr (by decide) (by decide) | exact cm (by decide) (by decide) | exact cm (by omega) (by omega) | exact ⟨by decide, by decide⟩ | (dsimp only; omega) | omega | assumption)
local macro_rules | `(tactic| wtm_at "s") => `(tactic| first | refine ⟨_, rfl, ?_⟩ | refine ⟨_, _, rfl, rfl, ?_⟩ | refine ⟨rfl, ?_⟩ | refine ⟨_, _, _, _, rfl, rfl, SqT.of (by wtm_at "h"), rfl, ?_⟩ | refine ⟨_, _, _, _, rfl, rfl, SqL.of (by wtm_at "h"), rfl, ?_⟩ | refine And.intro (by wtm_at "c") ?_)
local macro_rules | `(tactic| wtm_at "ss") => `(tactic| repeat wtm_at "s")
/-! ### all sayings: how many, in which order, and that they fit -/
def tailL (n : Nat) : List Say := prL .same (rise n) ++ prL .below (unl n) ++ prL .most (unl n) ++ gapL n ++ wpn .sum 40 (rise n) ++ w3 .adds n (rise n) ++ w3 .times n (rise n)
def boxL (bs : List Box) : List Say := wnum .is_ 0 0 bs ++ wnum .frm 1 0 bs ++ wnum .to_ 0 1 bs ++ restL bs ++ eithL bs ++ wnum .nev 0 0 bs
theorem sayl_cut (bs : List Box) : sayl bs = boxL bs ++ tailL bs.length := by
  unfold sayl boxL tailL
  simp only [List.append_assoc]
theorem fl_mem {α : Type} {F : Nat → List α} {n : Nat} {x : α} (h : x ∈ fl F n) : ∃ i, i < n ∧ x ∈ F i := by
  obtain ⟨i, hi, hx⟩ := List.mem_flatMap.mp h
  exact ⟨i, List.mem_range.mp hi, hx⟩
theorem fl_suc {α : Type} (F : Nat → List α) (n : Nat) : fl F (n + 1) = fl F n ++ F n := by
  unfold fl
  rw [List.range_succ, List.flatMap_append, List.flatMap_cons, List.flatMap_nil, List.append_nil]
theorem fl_pw {α : Type} {R : α → α → Prop} {F : Nat → List α} : ∀ {n : Nat}, (∀ i, i < n → (F i).Pairwise R) → (∀ i j x y, i < j → j < n → x ∈ F i → y ∈ F j → R x y) → (fl F n).Pairwise R
  | 0, _, _ => List.Pairwise.nil
  | n + 1, h1, h2 => by
    rw [fl_suc, List.pairwise_append]
    refine ⟨fl_pw (fun i hi => h1 i (by omega)) fun i j x y hij hj => h2 i j x y hij (by omega), h1 n (by omega), fun x hx y hy => ?_⟩
    obtain ⟨i, hi, hxi⟩ := fl_mem hx
    exact h2 i n x y hi (by omega) hxi hy
theorem ir_pw (lo : Int) (n : Nat) : (ir lo n).Pairwise (· < ·) := by
  unfold ir
  rw [List.pairwise_map]
  exact List.pairwise_lt_range.imp fun h => by omega
theorem ir_fl {α : Type} (lo : Int) (n : Nat) (G : Int → List α) : (ir lo n).flatMap G = fl (fun j => G (lo + ((j : Nat) : Int))) n := by
  unfold ir fl
  rw [List.flatMap_map]
/-! the tail, for each number of boxes -/
theorem tail_len : ∀ n : Nat, 1 ≤ n → n ≤ 4 → (((tailL n).length : Nat) : Int) = (n : Int) * ((n : Int) - 1) / 2 * (1 + 2 + 2 + 40 + 81) + 2 * ((n : Int) * ((n : Int) - 1) / 2) * ((n : Int) - 2) := by
  intro n h1 h4
  have : n = 1 ∨ n = 2 ∨ n = 3 ∨ n = 4 := by omega
  rcases this with rfl | rfl | rfl | rfl <;> decide +kernel
theorem tail_asc : ∀ n : Nat, 1 ≤ n → n ≤ 4 → asc [6] ((tailL n).map Say.rank) = true := by
  intro n h1 h4
  have : n = 1 ∨ n = 2 ∨ n = 3 ∨ n = 4 := by omega
  rcases this with rfl | rfl | rfl | rfl <;> decide +kernel
theorem asc_low {k : Int} {t : List Int} {xs : List (List Int)} (hk : k < 6) (h : asc [6] xs = true) : asc (k :: t) xs = true := by
  cases xs with
  | nil => rfl
  | cons x xs =>
    have h' := Bool.and_eq_true_iff.mp h
    refine Bool.and_eq_true_iff.mpr ⟨?_, h'.2⟩
    cases x with
    | nil => exact absurd h'.1 (by decide)
    | cons y ys =>
      have h1 := h'.1
      rw [HT.lexLt_cons] at h1 ⊢
      have hy : 6 ≤ y := by
        by_cases e : (6 : Int) = y
        · omega
        · rw [if_neg e, decide_eq_true_iff] at h1
          omega
      rw [if_neg (by omega), decide_eq_true_iff]
      omega
theorem asc_app : ∀ {xs ys : List (List Int)} {l : List Int}, asc l xs = true → (∀ z, z = l ∨ z ∈ xs → asc z ys = true) → asc l (xs ++ ys) = true
  | [], ys, l, _, h => h l (.inl rfl)
  | x :: xs, ys, l, h1, h => by
    have h' := Bool.and_eq_true_iff.mp h1
    exact Bool.and_eq_true_iff.mpr ⟨h'.1, asc_app h'.2 fun z hz => h z (.inr (hz.elim (fun e => by rw [e]; exact List.mem_cons_self) (List.mem_cons_of_mem _)))⟩
theorem asc_pw : ∀ {xs : List (List Int)} {l : List Int}, (l :: xs).Pairwise (fun a b => HT.lexLt a b = true) → asc l xs = true
  | [], _, _ => rfl
  | x :: xs, l, h => by
    rw [List.pairwise_cons] at h
    exact Bool.and_eq_true_iff.mpr ⟨h.1 x List.mem_cons_self, asc_pw h.2⟩
/-- one rank below another -/
def Lt (s t : Say) : Prop := HT.lexLt s.rank t.rank = true
theorem lt_ord {s t : Say} (h : s.ord < t.ord) : Lt s t := by
  unfold Lt Say.rank
  rw [HT.lexLt_cons, if_neg (by omega), decide_eq_true_iff]
  exact h
theorem lex_same (x : Int) (xs ys : List Int) : HT.lexLt (x :: xs) (x :: ys) = HT.lexLt xs ys := by rw [HT.lexLt_cons, if_pos rfl]
theorem lex_less {x y : Int} (h : x < y) (xs ys : List Int) : HT.lexLt (x :: xs) (y :: ys) = true := by rw [HT.lexLt_cons, if_neg (by omega), decide_eq_true_iff]; exact h
theorem wnum_at {mk : Nat → Int → Say} {ab be : Int} {bs : List Box} {i : Nat} {o : Say} (h : o ∈ wnumF mk ab be bs i) : ∃ b n, bs[i]? = some b ∧ o = mk i n ∧ b.lo + ab ≤ n ∧ n ≤ b.hi - be := by
  unfold wnumF at h
  cases e : bs[i]? with
  | none => rw [e] at h; cases h
  | some b =>
    rw [e] at h
    obtain ⟨n, hn, rfl⟩ := List.mem_map.mp h
    have := ir_mem.mp hn
    exact ⟨b, n, rfl, rfl, this.1, by omega⟩
theorem wnum_pw {mk : Nat → Int → Say} {o : Int} (hmk : ∀ i n, (mk i n).rank = [o, (i : Nat), n]) (ab be : Int) (bs : List Box) : (wnum mk ab be bs).Pairwise Lt := by
  refine fl_pw (fun i _ => ?_) fun i j x y hij _ hx hy => ?_
  · unfold wnumF
    cases bs[i]? with
    | none => exact List.Pairwise.nil
    | some b =>
      show ((ir _ _).map (mk i)).Pairwise Lt
      rw [List.pairwise_map]
      refine (ir_pw _ _).imp fun h => ?_
      unfold Lt
      rw [hmk, hmk, lex_same, lex_same]
      exact lex_less h _ _
  · obtain ⟨_, n, _, rfl, _⟩ := wnum_at hx
    obtain ⟨_, m, _, rfl, _⟩ := wnum_at hy
    unfold Lt
    rw [hmk, hmk, lex_same]
    exact lex_less (by omega) _ _
theorem rest_at {i : Nat} {o : Say} (h : o ∈ restF i) : ∃ m r, o = .rest i m r ∧ 2 ≤ m ∧ m ≤ 6 ∧ 0 ≤ r ∧ r ≤ m - 1 := by
  obtain ⟨m, hm, hr⟩ := List.mem_flatMap.mp h
  obtain ⟨r, hr', rfl⟩ := List.mem_map.mp hr
  have h1 := ir_mem.mp hm
  have h2 := ir_mem.mp hr'
  exact ⟨m, r, rfl, h1.1, by omega, h2.1, by omega⟩
theorem rest_pw (bs : List Box) : (restL bs).Pairwise Lt := by
  refine fl_pw (fun i _ => ?_) fun i j x y hij _ hx hy => ?_
  · unfold restF
    rw [ir_fl]
    refine fl_pw (fun m _ => ?_) fun m k x y hmk _ hx hy => ?_
    · rw [List.pairwise_map]
      refine (ir_pw _ _).imp fun h => ?_
      show HT.lexLt [3, _, _, _] [3, _, _, _] = true
      rw [lex_same, lex_same, lex_same]
      exact lex_less h _ _
    · obtain ⟨r, _, rfl⟩ := List.mem_map.mp hx
      obtain ⟨r', _, rfl⟩ := List.mem_map.mp hy
      show HT.lexLt [3, _, _, _] [3, _, _, _] = true
      rw [lex_same, lex_same]
      exact lex_less (by omega) _ _
  · obtain ⟨_, _, rfl, _⟩ := rest_at hx
    obtain ⟨_, _, rfl, _⟩ := rest_at hy
    show HT.lexLt [3, _, _, _] [3, _, _, _] = true
    rw [lex_same]
    exact lex_less (by omega) _ _
theorem eith_at {bs : List Box} {i : Nat} {o : Say} (h : o ∈ eithF bs i) : ∃ b n k, bs[i]? = some b ∧ o = .eith i n k ∧ b.lo ≤ n ∧ n ≤ k - 1 ∧ k ≤ b.hi := by
  unfold eithF at h
  cases e : bs[i]? with
  | none => rw [e] at h; cases h
  | some b =>
    rw [e] at h
    obtain ⟨n, hn, hr⟩ := List.mem_flatMap.mp h
    obtain ⟨k, hk, rfl⟩ := List.mem_map.mp hr
    have h1 := ir_mem.mp hn
    have h2 := ir_mem.mp hk
    exact ⟨b, n, k, rfl, rfl, h1.1, by omega, by omega⟩
theorem eith_pw (bs : List Box) : (eithL bs).Pairwise Lt := by
  refine fl_pw (fun i _ => ?_) fun i j x y hij _ hx hy => ?_
  · unfold eithF
    cases bs[i]? with
    | none => exact List.Pairwise.nil
    | some b =>
      show ((ir _ _).flatMap _).Pairwise Lt
      rw [ir_fl]
      refine fl_pw (fun m _ => ?_) fun m k x y hmk _ hx hy => ?_
      · rw [List.pairwise_map]
        refine (ir_pw _ _).imp fun h => ?_
        show HT.lexLt [4, _, _, _] [4, _, _, _] = true
        rw [lex_same, lex_same, lex_same]
        exact lex_less h _ _
      · obtain ⟨r, _, rfl⟩ := List.mem_map.mp hx
        obtain ⟨r', _, rfl⟩ := List.mem_map.mp hy
        show HT.lexLt [4, _, _, _] [4, _, _, _] = true
        rw [lex_same, lex_same]
        exact lex_less (by omega) _ _
  · obtain ⟨_, _, _, _, rfl, _⟩ := eith_at hx
    obtain ⟨_, _, _, _, rfl, _⟩ := eith_at hy
    show HT.lexLt [4, _, _, _] [4, _, _, _] = true
    rw [lex_same]
    exact lex_less (by omega) _ _
theorem wnum_ord {mk : Nat → Int → Say} {o : Int} (hmk : ∀ i n, (mk i n).ord = o) {ab be : Int} {bs : List Box} {x : Say} (h : x ∈ wnum mk ab be bs) : x.ord = o := by
  obtain ⟨i, _, hx⟩ := fl_mem h
  obtain ⟨_, n, _, rfl, _⟩ := wnum_at hx
  exact hmk i n
theorem rest_ord {bs : List Box} {x : Say} (h : x ∈ restL bs) : x.ord = 3 := by
  obtain ⟨i, _, hx⟩ := fl_mem h
  obtain ⟨_, _, rfl, _⟩ := rest_at hx
  rfl
theorem eith_ord {bs : List Box} {x : Say} (h : x ∈ eithL bs) : x.ord = 4 := by
  obtain ⟨i, _, hx⟩ := fl_mem h
  obtain ⟨_, _, _, _, rfl, _⟩ := eith_at hx
  rfl
theorem pw_app {xs ys : List Say} (h1 : xs.Pairwise Lt) (h2 : ys.Pairwise Lt) {o : Int} (hx : ∀ x ∈ xs, x.ord < o) (hy : ∀ y ∈ ys, y.ord = o) : (xs ++ ys).Pairwise Lt :=
  List.pairwise_append.mpr ⟨h1, h2, fun x hx' y hy' => lt_ord (by rw [hy y hy']; exact hx x hx')⟩
theorem box_pw (bs : List Box) : (boxL bs).Pairwise Lt ∧ ∀ x ∈ boxL bs, 0 ≤ x.ord ∧ x.ord < 6 := by
  have o1 : ∀ x ∈ wnum Say.is_ 0 0 bs, x.ord = 0 := fun x hx => wnum_ord (mk := Say.is_) (o := 0) (fun _ _ => rfl) hx
  have o2 : ∀ x ∈ wnum Say.frm 1 0 bs, x.ord = 1 := fun x hx => wnum_ord (mk := Say.frm) (o := 1) (fun _ _ => rfl) hx
  have o3 : ∀ x ∈ wnum Say.to_ 0 1 bs, x.ord = 2 := fun x hx => wnum_ord (mk := Say.to_) (o := 2) (fun _ _ => rfl) hx
  have o4 : ∀ x ∈ restL bs, x.ord = 3 := fun x hx => rest_ord hx
  have o5 : ∀ x ∈ eithL bs, x.ord = 4 := fun x hx => eith_ord hx
  have o6 : ∀ x ∈ wnum Say.nev 0 0 bs, x.ord = 5 := fun x hx => wnum_ord (mk := Say.nev) (o := 5) (fun _ _ => rfl) hx
  have p1 := wnum_pw (mk := Say.is_) (o := 0) (fun _ _ => rfl) 0 0 bs
  have p2 := wnum_pw (mk := Say.frm) (o := 1) (fun _ _ => rfl) 1 0 bs
  have p3 := wnum_pw (mk := Say.to_) (o := 2) (fun _ _ => rfl) 0 1 bs
  have p6 := wnum_pw (mk := Say.nev) (o := 5) (fun _ _ => rfl) 0 0 bs
  have q2 := pw_app p1 p2 (o := 1) (fun x hx => by rw [o1 x hx]; decide) o2
  have m2 : ∀ x ∈ wnum Say.is_ 0 0 bs ++ wnum Say.frm 1 0 bs, 0 ≤ x.ord ∧ x.ord < 2 := fun x hx => by
    rcases List.mem_append.mp hx with z | z
    · rw [o1 x z]; decide
    · rw [o2 x z]; decide
  have q3 := pw_app q2 p3 (o := 2) (fun x hx => (m2 x hx).2) o3
  have m3 : ∀ x ∈ wnum Say.is_ 0 0 bs ++ wnum Say.frm 1 0 bs ++ wnum Say.to_ 0 1 bs, 0 ≤ x.ord ∧ x.ord < 3 := fun x hx => by
    rcases List.mem_append.mp hx with z | z
    · have := m2 x z; omega
    · rw [o3 x z]; decide
  have q4 := pw_app q3 (rest_pw bs) (o := 3) (fun x hx => (m3 x hx).2) o4
  have m4 : ∀ x ∈ wnum Say.is_ 0 0 bs ++ wnum Say.frm 1 0 bs ++ wnum Say.to_ 0 1 bs ++ restL bs, 0 ≤ x.ord ∧ x.ord < 4 := fun x hx => by
    rcases List.mem_append.mp hx with z | z
    · have := m3 x z; omega
    · rw [o4 x z]; decide
  have q5 := pw_app q4 (eith_pw bs) (o := 4) (fun x hx => (m4 x hx).2) o5
  have m5 : ∀ x ∈ wnum Say.is_ 0 0 bs ++ wnum Say.frm 1 0 bs ++ wnum Say.to_ 0 1 bs ++ restL bs ++ eithL bs, 0 ≤ x.ord ∧ x.ord < 5 := fun x hx => by
    rcases List.mem_append.mp hx with z | z
    · have := m4 x z; omega
    · rw [o5 x z]; decide
  refine ⟨pw_app q5 p6 (o := 5) (fun x hx => (m5 x hx).2) o6, fun x hx => ?_⟩
  rcases List.mem_append.mp hx with z | z
  · have := m5 x z; omega
  · rw [o6 x z]; decide
theorem eith_sum : ∀ d : Nat, d < 20 → ((List.range d).map fun j => d - j).sum * 2 = d * (d + 1) := by decide +kernel
theorem wnum_len {mk : Nat → Int → Say} {ab be : Int} {bs : List Box} {i : Nat} {b : Box} (h : bs[i]? = some b) : (wnumF mk ab be bs i).length = (b.hi - be + 1 - (b.lo + ab)).toNat := by
  unfold wnumF
  rw [h]
  show ((ir _ _).map (mk i)).length = _
  rw [List.length_map]
  unfold ir
  rw [List.length_map, List.length_range]
theorem rest_len (i : Nat) : (restF i).length = 20 := rfl
theorem eith_len {bs : List Box} {i : Nat} {b : Box} (h : bs[i]? = some b) (ok : b.Ok) : (eithF bs i).length * 2 = (b.hi - b.lo).toNat * ((b.hi - b.lo).toNat + 1) := by
  have w := ok.w
  rw [← eith_sum (b.hi - b.lo).toNat (by omega)]
  congr 1
  unfold eithF
  rw [h]
  show ((ir b.lo (b.hi - b.lo).toNat).flatMap _).length = _
  rw [List.length_flatMap]
  unfold ir
  rw [List.map_map]
  congr 1
  refine List.map_congr_left fun j hj => ?_
  have := List.mem_range.mp hj
  show ((List.map _ (List.map _ (List.range (b.hi + 1 - (b.lo + ((j : Nat) : Int) + 1)).toNat))).length) = _
  rw [List.length_map, List.length_map, List.length_range]
  omega
def boxN (bs : List Box) (k : Nat) : Nat := (fl (wnumF .is_ 0 0 bs) k).length + (fl (wnumF .frm 1 0 bs) k).length + (fl (wnumF .to_ 0 1 bs) k).length + (fl restF k).length + (fl (eithF bs) k).length + (fl (wnumF .nev 0 0 bs) k).length
theorem box_len {bs : List Box} (ok : ∀ b ∈ bs, b.Ok) : ∀ k, k ≤ bs.length → ((boxN bs k : Nat) : Int) = (bs.take k).foldl cbF 0
  | 0, _ => rfl
  | k + 1, h => by
    have hk : k < bs.length := by omega
    have hb := List.getElem?_eq_getElem hk
    have bok := ok _ (List.mem_of_getElem? hb)
    have h1 := bok.fl
    have h2 := bok.fh
    have ih := box_len ok k (by omega)
    have el := eith_len hb bok
    rw [List.take_add_one, hb, List.foldl_append]
    show _ = cbF ((bs.take k).foldl cbF 0) bs[k]
    rw [← ih]
    unfold boxN cbF
    rw [fl_suc, fl_suc, fl_suc, fl_suc, fl_suc, fl_suc, List.length_append, List.length_append, List.length_append, List.length_append, List.length_append, List.length_append, wnum_len hb, wnum_len hb, wnum_len hb, wnum_len hb, rest_len]
    obtain ⟨d, hd⟩ : ∃ d : Nat, bs[k].hi - bs[k].lo = (d : Int) := ⟨(bs[k].hi - bs[k].lo).toNat, by omega⟩
    rw [hd, Int.toNat_natCast] at el
    have e2 : (bs[k].hi - bs[k].lo + 1) * (bs[k].hi - bs[k].lo + 1 - 1) / 2 = (((eithF bs k).length : Nat) : Int) := by
      rw [hd]
      have e3 : ((d : Int) + 1) * ((d : Int) + 1 - 1) = (((eithF bs k).length * 2 : Nat) : Int) := by
        rw [el, show ((d : Int) + 1 - 1) = (d : Int) by omega, Int.mul_comm]
        simp
      rw [e3]
      omega
    rw [e2]
    omega
theorem box_fit {bs : List Box} {s : Say} (h : s ∈ boxL bs) : ∃ b, bs[s.fst]? = some b ∧ s.Fit1 b.lo b.hi := by
  unfold boxL at h
  rcases List.mem_append.mp h with h | h
  rcases List.mem_append.mp h with h | h
  rcases List.mem_append.mp h with h | h
  rcases List.mem_append.mp h with h | h
  rcases List.mem_append.mp h with h | h
  · obtain ⟨i, _, hx⟩ := fl_mem h
    obtain ⟨b, n, hb, rfl, f1, f2⟩ := wnum_at hx
    exact ⟨b, hb, by show b.lo ≤ n ∧ n ≤ b.hi; omega⟩
  · obtain ⟨i, _, hx⟩ := fl_mem h
    obtain ⟨b, n, hb, rfl, f1, f2⟩ := wnum_at hx
    exact ⟨b, hb, by show b.lo + 1 ≤ n ∧ n ≤ b.hi; omega⟩
  · obtain ⟨i, _, hx⟩ := fl_mem h
    obtain ⟨b, n, hb, rfl, f1, f2⟩ := wnum_at hx
    exact ⟨b, hb, by show b.lo ≤ n ∧ n ≤ b.hi - 1; omega⟩
  · obtain ⟨i, hi, hx⟩ := fl_mem h
    obtain ⟨m, r, rfl, f⟩ := rest_at hx
    exact ⟨bs[i], List.getElem?_eq_getElem hi, f⟩
  · obtain ⟨i, hi, hx⟩ := fl_mem h
    obtain ⟨b, n, k, hb, rfl, f⟩ := eith_at hx
    exact ⟨b, hb, f⟩
  · obtain ⟨i, _, hx⟩ := fl_mem h
    obtain ⟨b, n, hb, rfl, f1, f2⟩ := wnum_at hx
    exact ⟨b, hb, by show b.lo ≤ n ∧ n ≤ b.hi; omega⟩
theorem rise_at {n : Nat} {x : Nat × Nat} (h : x ∈ rise n) : x.1 < x.2 ∧ x.2 < n := by
  obtain ⟨i, hi, hx⟩ := fl_mem h
  obtain ⟨b, hb, rfl⟩ := List.mem_map.mp hx
  have := ir_mem.mp hb
  exact ⟨by show i < b.toNat; omega, by show b.toNat < n; omega⟩
theorem unl_at {n : Nat} {x : Nat × Nat} (h : x ∈ unl n) : x.1 ≠ x.2 ∧ x.1 < n ∧ x.2 < n := by
  obtain ⟨i, hi, hx⟩ := fl_mem h
  obtain ⟨b, hb, e⟩ := List.mem_filterMap.mp hx
  have := ir_mem.mp hb
  split at e
  · cases e
  · rename_i hne
    cases e
    exact ⟨by show i ≠ b.toNat; omega, hi, by show b.toNat < n; omega⟩
theorem wpn_at {mk : Nat → Nat → Int → Say} {w : Int} {prs : List (Nat × Nat)} {o : Say} (h : o ∈ wpn mk w prs) : ∃ x n, x ∈ prs ∧ o = mk x.1 x.2 n ∧ -w ≤ n ∧ n ≤ w := by
  obtain ⟨x, hx, ho⟩ := List.mem_flatMap.mp h
  obtain ⟨n, hn, rfl⟩ := List.mem_map.mp ho
  have := ir_mem.mp hn
  exact ⟨x, n, hx, rfl, this.1, by omega⟩
theorem w3_at {mk : Nat → Nat → Nat → Say} {n : Nat} {prs : List (Nat × Nat)} {o : Say} (h : o ∈ w3 mk n prs) : ∃ x c, x ∈ prs ∧ c < n ∧ c ≠ x.1 ∧ c ≠ x.2 ∧ o = mk x.1 x.2 c := by
  obtain ⟨x, hx, ho⟩ := List.mem_flatMap.mp h
  obtain ⟨c, hc, e⟩ := List.mem_filterMap.mp ho
  have := ir_mem.mp hc
  split at e
  · cases e
  · rename_i hne
    cases e
    exact ⟨x, c.toNat, hx, by omega, fun z => hne (.inl (by omega)), fun z => hne (.inr (by omega)), rfl⟩
theorem tail_fit {n : Nat} {s : Say} (h : s ∈ tailL n) : s.Fit2 n := by
  unfold tailL at h
  rcases List.mem_append.mp h with h | h
  rcases List.mem_append.mp h with h | h
  rcases List.mem_append.mp h with h | h
  rcases List.mem_append.mp h with h | h
  rcases List.mem_append.mp h with h | h
  rcases List.mem_append.mp h with h | h
  · obtain ⟨x, hx, rfl⟩ := List.mem_map.mp h
    exact rise_at hx
  · obtain ⟨x, hx, rfl⟩ := List.mem_map.mp h
    exact unl_at hx
  · obtain ⟨x, hx, rfl⟩ := List.mem_map.mp h
    exact unl_at hx
  · obtain ⟨h1, h2⟩ := List.mem_filter.mp h
    obtain ⟨x, n, hx, rfl, f1, f2⟩ := wpn_at h1
    have := rise_at hx
    refine ⟨this.1, this.2, f1, f2, fun z => ?_⟩
    subst z
    exact absurd h2 (by show ¬ (Say.nz (Say.gap x.1 x.2 0) = true); exact Bool.false_ne_true)
  · obtain ⟨x, n, hx, rfl, f1, f2⟩ := wpn_at h
    have := rise_at hx
    exact ⟨this.1, this.2, f1, f2⟩
  · obtain ⟨x, c, hx, hc, n1, n2, rfl⟩ := w3_at h
    have := rise_at hx
    exact ⟨this.1, this.2, hc, n1, n2⟩
  · obtain ⟨x, c, hx, hc, n1, n2, rfl⟩ := w3_at h
    have := rise_at hx
    exact ⟨this.1, this.2, hc, n1, n2⟩
theorem sayl_tells {bs : List Box} (ok : ∀ b ∈ bs, b.Ok) (l1 : 1 ≤ bs.length) (l4 : bs.length ≤ 4) : Tells bs (sayl bs) := by
  have hpw := box_pw bs
  refine ⟨?_, ?_, fun s hs => ?_⟩
  · rw [sayl_cut, List.length_append]
    have h1 := box_len ok bs.length (Nat.le_refl _)
    rw [List.take_length] at h1
    have h2 := tail_len bs.length l1 l4
    have h3 : (boxL bs).length = boxN bs bs.length := by
      unfold boxL boxN wnum restL eithL
      rw [List.length_append, List.length_append, List.length_append, List.length_append, List.length_append]
    rw [h3]
    unfold cnt
    omega
  · rw [sayl_cut, List.map_append]
    refine asc_app (asc_pw ?_) fun z hz => ?_
    · rw [List.pairwise_cons]
      refine ⟨fun x hx => ?_, ?_⟩
      · obtain ⟨s, hs, rfl⟩ := List.mem_map.mp hx
        have := (hpw.2 s hs).1
        exact lex_less (by omega) _ _
      · rw [List.pairwise_map]
        exact hpw.1
    · rcases hz with rfl | hz
      · exact asc_low (by decide) (tail_asc bs.length l1 l4)
      · obtain ⟨s, hs, rfl⟩ := List.mem_map.mp hz
        exact asc_low (hpw.2 s hs).2 (tail_asc bs.length l1 l4)
  · rw [sayl_cut] at hs
    rcases List.mem_append.mp hs with z | z
    · exact .inl (box_fit z)
    · exact .inr (tail_fit z)
end K22

namespace K22
open PySem L2
local macro_rules | `(tactic| wtm_at "h") => `(tactic| first | assumption | exact upd_same)
local macro_rules | `(tactic| wtm_at "c") => `(tactic| first | exact p1018 | exact cmr (by decide) (by decide) | exact cm (by decide) (by decide) | exact cm (by omega) (by omega) | exact ⟨by decide, by decide⟩ | (dsimp only; omega) | omega | assumption)
local macro_rules | `(tactic| wtm_at "s") => `(tactic| first | refine ⟨_, rfl, ?_⟩ | refine ⟨_, _, rfl, rfl, ?_⟩ | refine ⟨rfl, ?_⟩ | refine ⟨_, _, _, _, rfl, rfl, SqT.of (by wtm_at "h"), rfl, ?_⟩ | refine ⟨_, _, _, _, rfl, rfl, SqL.of (by wtm_at "h"), rfl, ?_⟩ | refine And.intro (by wtm_at "c") ?_)
local macro_rules | `(tactic| wtm_at "ss") => `(tactic| repeat wtm_at "s")
/-! ### rows of a program -/
theorem nxs {σ : St} {H : Hp} {t R : TS} {D : Ends} {rt : VK} {bk ct : St → Hp → Prop} (h : tSeq t R D σ H) : Ends.nx ⟨tSeq t R D, rt, bk, ct⟩ σ H := h
def spStatement : Sp := fun vs H Q _ => ∃ (r pb pm : Addr) (us : List V) (bs : List Box) (ms : List Int), vs = [.ref r, .ref pb, .ref pm] ∧ PotAt H r ∧ pb ≠ r ∧ pm ≠ r ∧ BoxesAt H pb us bs ∧ 1 ≤ bs.length ∧ bs.length ≤ 4 ∧ H pm = some (.lst (ms.map V.int)) ∧ ms.length ≤ 100 ∧
  ∀ (p : Addr) (k : Str) (rest : List V) (H' : Hp), H p = none → But r H H' → PotAt H' r → H' p = some (.tup (.str k :: rest)) → Q (.ref p) H'
section
variable {P : Program} {w : World} {K : PySem.W.Frag} {mg : Str → Option Value} {base : Heap}
theorem scStatement : FnScope ["pot", "boxes", "marks", "kind", "box", "to"] ["pot", "boxes", "marks"] (defScope sStatement) := ⟨rfl, rfl, rfl, by decide +kernel, rfl, by decide +kernel, by decide +kernel⟩
theorem ok_statement (h : Has K mg "_law_statement" sStatement ["pot", "boxes", "marks"]) (B : Blt mg) (cN : Cal P w K mg base 1 "_law_next" ["pot", "many"] spNext) : Cal P w K mg base 2 "_law_statement" ["pot", "boxes", "marks"] spStatement := by
  refine h.cal scStatement (fun vs H Q E h => ?_) (fun f cdv A outer s H vs Q E hr h => ?_)
  · obtain ⟨r, pb, pm, us, bs, ms, rfl, _⟩ := h
    rfl
  obtain ⟨r, pb, pm, us, bs, ms, rfl, hR, nbr, nmr, X, l1, l4, hm, mlen, q⟩ := h
  have hr1 : Room 1 _ := hr
  have hu0 := Nat.lt_of_le_of_lt (Nat.le_add_right _ 64) hr1.units
  refine ⟨_, (pss_cons (ps_set (i := 3) scStatement.nd rfl (Or.inl rfl) (pe_cal cN hr1 rfl (pa_cons (pv 0) (pa_cons pe_int pa_nil))))
    (pss_cons (ps_set (i := 4) scStatement.nd rfl (Or.inl rfl) (pe_cal cN hr1 rfl (pa_cons (pv 0) (pa_cons (pe_callB call_len_seq rfl B.len bt_len (pa_cons (pv 1) pa_nil)) pa_nil))))
    (pss_cons (ps_if (PW.pt (pw_and (pt_cmpR op_eq (pv 3) pe_int (nomark _)) (pw_and1 (pt_cmpR op_lt (pe_callB call_len_seq rfl B.len bt_len (pa_cons (pv 2) pa_nil)) pe_int (nomark _))))) (pss_one (ps_ret (pe_tup (pa_cons pe_str (pa_cons (pe_op op_add_str pe_str (pe_ix ix_str pe_str (pe_callB call_len_seq rfl B.len bt_len (pa_cons (pv 2) pa_nil)) (fun _ _ => rfl))) pa_nil))))) pss_nil)
    (pss_cons (ps_if (pt_cmpR op_eq (pv 3) pe_int (nomark _)) (pss_one (ps_ret (pe_tup (pa_cons pe_str (pa_cons (pv 4) pa_nil))))) pss_nil)
    (pss_cons (ps_if (pt_cmpR op_eq (pv 3) pe_int (nomark _)) (pss_one (ps_ret (pe_tup (pa_cons pe_str (pa_cons (pv 4) (pa_cons (pe_tup (pa_cons pe_str (pa_cons (pe_tup (pa_cons pe_str (pa_cons (pe_ix ix_tup (pe_ix ix_list (pv 1) (pv 4) (fun _ _ => rfl)) pe_int (fun _ _ => rfl)) pa_nil))) (pa_cons (pe_tup (pa_cons pe_str (pa_cons (pe_cal cN hr1 rfl (pa_cons (pv 0) (pa_cons pe_int pa_nil))) pa_nil))) pa_nil)))) pa_nil)))))) pss_nil)
    (pss_cons (ps_if (PW.pt (pw_and (pt_cmpR op_gt (pv 3) pe_int (nomark _)) (pw_and1 (pt_cmpR (op_neN hu0) (pv 2) (pe_lst pa_nil) (nomark _))))) (pss_cons (ps_set (i := 5) scStatement.nd rfl (Or.inl rfl) (pe_ix ix_list (pv 2) (pe_cal cN hr1 rfl (pa_cons (pv 0) (pa_cons (pe_callB call_len_seq rfl B.len bt_len (pa_cons (pv 2) pa_nil)) pa_nil))) (fun _ _ => rfl)))
    (pss_cons (ps_if (pt_cmpR op_eq (pv 3) pe_int (nomark _)) (pss_one (ps_ret (pe_tup (pa_cons pe_str (pa_cons (pv 5) pa_nil))))) pss_nil)
    (pss_one (ps_ret (pe_tup (pa_cons pe_str (pa_cons (pe_ix ix_list (pe_lst (pa_cons pe_str (pa_cons pe_str pa_nil))) (pe_op op_mod (pv 3) pe_int) (fun _ _ => rfl)) (pa_cons (pe_tup (pa_cons pe_str (pa_cons (pe_cal cN hr1 rfl (pa_cons (pv 0) (pa_cons pe_int pa_nil))) pa_nil))) (pa_cons (pe_tup (pa_cons pe_str (pa_cons (pe_ix ix_tup (pe_ix ix_list (pv 1) (pv 4) (fun _ _ => rfl)) pe_int (fun _ _ => rfl)) pa_nil))) (pa_cons (pv 5) pa_nil)))))))))) pss_nil)
    (pss_one (ps_ret (pe_tup (pa_cons pe_str pa_nil)))))))))), ?_⟩
  have hl := X.each.1
  refine ⟨_, rfl, r, 6, rfl, hR, few_of (by decide) (by decide), fun kind H1 k0 k1 b1 P1 => ?_⟩
  have X1 := X.but hR nbr b1
  have m1 := b1 _ _ nmr hm
  refine ⟨_, rfl, _, rfl, pb, _, rfl, .inl (SqL.of X1.at_), r, (us.length : Int), rfl, P1, few_of (by omega) (by omega), fun bx H2 x0 x1 b2 P2 => ?_⟩
  have X2 := X1.but P1 nbr b2
  have m2 := b2 _ _ nmr m1
  have b12 := b1.trans b2
  have hml : (ms.map V.int).length = ms.length := List.length_map ..
  obtain ⟨bi, rfl⟩ := Int.eq_ofNat_of_zero_le x0
  have hbu : bi < us.length := by omega
  have kinds : kind = 0 ∨ kind = 1 ∨ kind = 2 ∨ kind = 3 ∨ kind = 4 ∨ kind = 5 := by omega
  have name : ∀ {H3 : Hp}, BoxesAt H3 pb us bs → ∃ (pB : Addr) (b : Box), us[bi]? = some (.ref pB) ∧ H3 pB = some (.tup b.tup) := fun {H3} X3 => by
    obtain ⟨b, _, pB, eB, hB⟩ := X3.each.at (List.getElem?_eq_getElem hbu)
    exact ⟨pB, b, by rw [List.getElem?_eq_getElem hbu, eB], hB⟩
  have stop : ∀ H3, But r H H3 → PotAt H3 r → ∀ p, H3 p = none → Q (.ref p) (upd H3 p (.tup [.str "stop"])) := fun H3 b3 P3 p hp => q p "stop" [] _ (But.none b3 (P3.nn hp) hp) (b3.trans (.new hp _)) (P3.new hp _) upd_same
  rcases kinds with rfl | rfl | rfl | h
  · wtm_at "ss"
    refine ⟨pm, _, rfl, .inl (SqL.of m2), ?_⟩
    wtm_at "ss"
    refine ite_d (fun c => ?_) (fun c => ?_)
    · wtm_at "ss"
      refine ⟨pm, _, rfl, .inl (SqL.of m2), ?_⟩
      have c' : ((ms.map V.int).length : Int) < 8 := c
      rw [hml] at c' ⊢
      have hn : ms.length < ("abcdefgh" : Str).length := by
        have e : ("abcdefgh" : Str).length = 8 := by decide +kernel
        omega
      refine ⟨_, _, _, rfl, rfl, (by decide +kernel), atI_nat (List.getElem?_eq_getElem hn), ?_⟩
      refine ⟨_, _, rfl, rfl, (show ("m" : Str).length + 1 ≤ sizeLine from by decide +kernel), (by show 2 ≤ sizeLine; decide), fun p hp => ?_⟩
      exact q p "mark" _ _ (But.none b12 (P2.nn hp) hp) (b12.trans (.new hp _)) (P2.new hp _) upd_same
    · wtm_at "ss"
      exact ⟨(by show 1 ≤ sizeLine; decide), stop H2 b12 P2⟩
  · wtm_at "ss"
    refine ⟨(by show 2 ≤ sizeLine; decide), fun p hp => ?_⟩
    exact q p "ask" _ _ (But.none b12 (P2.nn hp) hp) (b12.trans (.new hp _)) (P2.new hp _) upd_same
  · obtain ⟨pB, b, hbi, hB⟩ := name X2
    wtm_at "ss"
    refine ⟨pb, _, _, _, rfl, rfl, SqL.of X2.at_, atI_nat hbi, ?_⟩
    wtm_at "ss"
    refine ⟨(by show 2 ≤ sizeLine; decide), fun p1 hp1 => ?_⟩
    have e1 := Same.new hp1 (.tup [.str "box", .str b.nm])
    have P3 := P2.mono e1
    have b3 := b12.trans (.of e1)
    generalize upd H2 p1 (.tup [.str "box", .str b.nm]) = H3 at *
    wtm_at "ss"
    refine ⟨r, 1000, rfl, P3, few_of (by decide) (by decide), fun n H4 n0 n1 b4 P4 => ?_⟩
    have b04 := b3.trans b4
    refine ⟨(by show 2 ≤ sizeLine; decide), fun p2 hp2 => ?_⟩
    have e2 := Same.new hp2 (.tup [.str "number", .int n])
    refine ⟨(by show 3 ≤ sizeLine; decide), fun p3 hp3 => ?_⟩
    have e3 := Same.new hp3 (.tup [.str "+", .ref p1, .ref p2])
    refine ⟨(by show 3 ≤ sizeLine; decide), fun p hp => ?_⟩
    have e23 := e2.trans e3
    have P5 := P4.mono e23
    have b05 := b04.trans (.of e23)
    exact q p "put" _ _ (But.none b05 (P5.nn hp) hp) (b05.trans (.new hp _)) (P5.new hp _) upd_same
  · have after : ∀ (kk : Int), kk = 3 ∨ kk = 4 ∨ kk = 5 → True := fun _ _ => trivial
    rcases h with rfl | rfl | rfl
    all_goals
      wtm_at "ss"
      refine ⟨(by show 0 ≤ sizeLine; decide), fun pe hpe => ?_⟩
      have e3 := Same.new hpe (.lst [])
      have P3 := P2.mono e3
      have b3 := b12.trans (.of e3)
      have X3 := X2.same e3
      have m3 := e3 _ _ m2
      have h3 : upd H2 pe (.lst []) pe = some (.lst []) := upd_same
      generalize upd H2 pe (.lst []) = H3 at *
      refine ⟨pm, pe, _, rfl, rfl, SqL.of m3, SqL.of h3, _, rfl, ?_⟩
      cases hz : (ms.map V.int).isEmpty with
      | true =>
        refine iteF ?_
        wtm_at "ss"
        exact ⟨(by show 1 ≤ sizeLine; decide), stop H3 b3 P3⟩
      | false =>
        have hm1 : 1 ≤ ms.length := by
          cases ms with
          | nil => cases hz
          | cons a t => simp
        refine iteT ?_
        wtm_at "ss"
        refine ⟨pm, _, rfl, .inl (SqL.of m3), r, ((ms.map V.int).length : Int), rfl, P3, few_of (by omega) (by omega), fun z H4 z0 z1 b4 P4 => ?_⟩
        obtain ⟨j, rfl⟩ := Int.eq_ofNat_of_zero_le z0
        have hj : j < ms.length := by omega
        have m4 := b4 _ _ nmr m3
        have X4 := X3.but P3 nbr b4
        have b04 := b3.trans b4
        refine ⟨pm, _, _, _, rfl, rfl, SqL.of m4, atI_nat (by rw [List.getElem?_map, List.getElem?_eq_getElem hj]; rfl), ?_⟩
        wtm_at "ss"
        first
          | (refine ⟨(by show 2 ≤ sizeLine; decide), fun p hp => ?_⟩
             exact q p "go" _ _ (But.none b04 (P4.nn hp) hp) (b04.trans (.new hp _)) (P4.new hp _) upd_same)
          | (refine iteC (decide_eq_false (fun z => by have := V.int.inj z; omega)) ?_
             wtm_at "ss"
             refine ⟨(by show 2 ≤ sizeLine; decide), fun l hl => ?_⟩
             have e5 := Same.new hl (.lst [.str "<", .str "="])
             have P5 := P4.mono e5
             have X5 := X4.same e5
             have b05 := b04.trans (.of e5)
             have l5 : upd H4 l (.lst [.str "<", .str "="]) l = some (.lst [.str "<", .str "="]) := upd_same
             generalize upd H4 l (.lst [.str "<", .str "="]) = H5 at *
             wtm_at "ss"
             refine ⟨r, 9, rfl, P5, few_of (by decide) (by decide), fun n H6 n0 n1 b6 P6 => ?_⟩
             have X6 := X5.but P5 nbr b6
             have b06 := b05.trans b6
             refine ⟨(by show 2 ≤ sizeLine; decide), fun p1 hp1 => ?_⟩
             have e7 := Same.new hp1 (.tup [.str "number", .int n])
             have P7 := P6.mono e7
             have X7 := X6.same e7
             have b07 := b06.trans (.of e7)
             generalize upd H6 p1 (.tup [.str "number", .int n]) = H7 at *
             obtain ⟨pB, b, hbi, hB⟩ := name X7
             wtm_at "ss"
             refine ⟨pb, _, _, _, rfl, rfl, SqL.of X7.at_, atI_nat hbi, ?_⟩
             wtm_at "ss"
             refine ⟨(by show 2 ≤ sizeLine; decide), fun p2 hp2 => ?_⟩
             have e8 := Same.new hp2 (.tup [.str "box", .str b.nm])
             have P8 := P7.mono e8
             have b08 := b07.trans (.of e8)
             wtm_at "ss"
             refine ⟨(by show 5 ≤ sizeLine; decide), fun p hp => ?_⟩
             exact q p "if" _ _ (But.none b08 (P8.nn hp) hp) (b08.trans (.new hp _)) (P8.new hp _) upd_same)
def spRows (K : PySem.W.Frag) : Sp := fun vs H Q _ => ∃ (ps pb : Addr) (us : List V) (bs : List Box) (ns : List Int), vs = [.ref ps, .ref pb] ∧ SqL K H ps (ns.map V.int) ∧ ns.length ≤ 63 ∧ BoxesAt H pb us bs ∧ 1 ≤ bs.length ∧ bs.length ≤ 4 ∧
  ∀ (p : Addr) (ur : List V) (H' : Hp), H p = none → Same H H' → H' p = some (.lst ur) → (∀ u ∈ ur, ∃ a, u = .ref a) → ur.length ≤ 63 → Q (.ref p) H'
theorem cut_memr {xs : List V} {lo hi : Option Int} {x : V} (h : x ∈ cutV xs lo hi) : x ∈ xs := List.mem_of_mem_drop (List.mem_of_mem_take h)
theorem scRows : FnScope ["script", "boxes", "rows", "marks", "cell", "row"] ["script", "boxes"] (defScope sRows) := ⟨rfl, rfl, rfl, by decide +kernel, rfl, by decide +kernel, by decide +kernel⟩
theorem ok_rows (h : Has K mg "_law_rows" sRows ["script", "boxes"]) (B : Blt mg) (cS : Cal P w K mg base 2 "_law_statement" ["pot", "boxes", "marks"] spStatement) : Cal P w K mg base 3 "_law_rows" ["script", "boxes"] (spRows K) := by
  refine h.cal scRows (fun vs H Q E h => ?_) (fun f cdv A outer s H vs Q E hr h => ?_)
  · obtain ⟨ps, pb, us, bs, ns, rfl, _⟩ := h
    rfl
  obtain ⟨ps, pb, us, bs, ns, rfl, hs, n63, X, l1, l4, q⟩ := h
  refine ⟨_, (pss_cons (ps_set (i := 2) scRows.nd rfl (Or.inl rfl) (pe_lst pa_nil))
    (pss_cons (ps_set (i := 3) scRows.nd rfl (Or.inl rfl) (pe_lst pa_nil))
    (pss_cons (ps_for PassesOwn.never rfl (pi_list (pe_slice sl_list (pv 0) (po_some pe_int) (po_some pe_int))) (pg_name (i := 4) scRows.nd rfl (Or.inl rfl)) (pss_cons (ps_set (i := 5) scRows.nd rfl (Or.inl rfl) (pe_cal cS hr rfl (pa_cons (pe_lst (pa_cons (pv 4) (pa_cons pe_int pa_nil))) (pa_cons (pv 1) (pa_cons (pv 3) pa_nil)))))
    (pss_cons (ps_if (pt_cmpR op_eq (pe_ix ix_tup (pv 5) pe_int (fun _ _ => rfl)) pe_str (nomark _)) (pss_one (ps_expr (pe_bm PySem.F.plainAttrs_list PySem.F.slot_list_append PySem.F.type_list_append mt_append (pv 3) (pa_cons (pe_callB call_len_seq rfl B.len bt_len (pa_cons (pv 2) pa_nil)) pa_nil)))) pss_nil)
    (pss_one (ps_expr (pe_bm PySem.F.plainAttrs_list PySem.F.slot_list_append PySem.F.type_list_append mt_append (pv 2) (pa_cons (pv 5) pa_nil)))))))
    (pss_one (ps_ret (pv 2)))))), ?_⟩
  refine ⟨(by show 0 ≤ sizeLine; decide), fun D hD => ?_⟩
  have e1 := Same.new hD (.lst [])
  have d1 : upd H D (.lst []) D = some (.lst []) := upd_same
  generalize upd H D (.lst []) = H1 at *
  refine ⟨(by show 0 ≤ sizeLine; decide), fun M hM => ?_⟩
  have e2 := Same.new hM (.lst [])
  have m2 : upd H1 M (.lst []) M = some (.lst []) := upd_same
  have d2 := e2 _ _ d1
  have nDM : D ≠ M := ne_of_none d1 hM
  have fM : H M = none := Same.free e1 hM
  have e12 := e1.trans e2
  generalize upd H1 M (.lst []) = H2 at *
  refine ⟨_, rfl, _, rfl, _, rfl, ps, _, rfl, e12.seq hs, fun pc hpc => ?_⟩
  have e3 := Same.new hpc (.lst (cutV (ns.map V.int) (some 1) (some 57)))
  have c3 : upd H2 pc (.lst (cutV (ns.map V.int) (some 1) (some 57))) pc = some (.lst (cutV (ns.map V.int) (some 1) (some 57))) := upd_same
  have cml : ∀ x ∈ cutV (ns.map V.int) (some 1) (some 57), ∃ z, x = V.int z := fun x hx => by
    obtain ⟨z, _, e⟩ := List.mem_map.mp (cut_memr hx)
    exact ⟨z, e.symm⟩
  have cll := cutV_length (ns.map V.int) (some 1) (some 57)
  rw [List.length_map] at cll
  have e13 := e12.trans e3
  have nDc : pc ≠ D := (ne_of_none d2 hpc).symm
  have nMc : pc ≠ M := (ne_of_none m2 hpc).symm
  have d3 := e3 _ _ d2
  have m3 := e3 _ _ m2
  generalize upd H2 pc (.lst (cutV (ns.map V.int) (some 1) (some 57))) = H3 at *
  generalize cutV (ns.map V.int) (some 1) (some 57) = cs at *
  refine ⟨pc, rfl, ⟨_, SqL.of c3⟩, for_list (K := K) (a := pc) (xs := cs) (fun i σ H' => ∃ (c4 c5 : Option V) (ur : List V) (ms : List Int), σ = [some (.ref ps), some (.ref pb), some (.ref D), some (.ref M), c4, c5] ∧ H' D = some (.lst ur) ∧ H' M = some (.lst (ms.map V.int)) ∧ H' pc = some (.lst cs) ∧ (∀ u ∈ ur, ∃ a, u = V.ref a) ∧ ur.length ≤ i ∧ ms.length ≤ i ∧ Same H H')
    ⟨none, none, [], [], rfl, d3, m3, c3, (fun u hu => nomatch hu), Nat.le_refl _, Nat.le_refl _, e13⟩ (fun i σ H' _ ⟨_, _, _, _, _, _, _, c, _⟩ => SqL.of c) ?_ ?_⟩
  · rintro i x σ H' hi ⟨c4, c5, ur, ms, rfl, dD, dM, dc, hur, url, msl, e⟩
    obtain ⟨z, rfl⟩ := cml x (List.mem_of_getElem? hi)
    have hil := (List.getElem?_eq_some_iff.mp hi).1
    refine ⟨_, rfl, (by show 2 ≤ sizeLine; decide), fun r hr0 => ?_⟩
    have eR := Same.new hr0 (.lst [.int z, .int 0])
    have PR : PotAt (upd H' r (.lst [.int z, .int 0])) r := ⟨_, _, upd_same⟩
    have fr : H r = none := Same.free e hr0
    have nDr : D ≠ r := ne_of_none dD hr0
    have nMr : M ≠ r := ne_of_none dM hr0
    have ncr : pc ≠ r := ne_of_none dc hr0
    have X4 := (X.same e).same eR
    have nbr : pb ≠ r := ne_of_none (e _ _ X.at_) hr0
    have dD4 := eR _ _ dD
    have dM4 := eR _ _ dM
    have dc4 := eR _ _ dc
    have e4 := e.trans eR
    generalize upd H' r (.lst [.int z, .int 0]) = H4 at *
    refine ⟨_, rfl, _, rfl, r, pb, M, us, bs, ms, rfl, PR, nbr, nMr, X4, l1, l4, dM4, by omega, fun p k rest H5 hp b5 P5 hp5 => ?_⟩
    have dD5 := b5 _ _ nDr dD4
    have dM5 := b5 _ _ nMr dM4
    have dc5 := b5 _ _ ncr dc4
    have e5 : Same H H5 := fun c u z => b5 _ _ (ne_of_none z fr) (e4 _ _ z)
    have nDp : D ≠ p := ne_of_none dD4 hp
    have nMp : M ≠ p := ne_of_none dM4 hp
    refine nxs (seq_cut (fun σ' H' => ∃ (ms : List Int), σ' = [some (.ref ps), some (.ref pb), some (.ref D), some (.ref M), some (.int z), some (.ref p)] ∧ H' D = some (.lst ur) ∧ H' M = some (.lst (ms.map V.int)) ∧ H' pc = some (.lst cs) ∧ ms.length ≤ i + 1 ∧ Same H H') (fun R' hR' => ?_) ?_)
    · refine ⟨_, rfl, p, _, _, _, rfl, rfl, SqT.of hp5, at0, rfl, _, rfl, ?_⟩
      refine ite_d (fun _ => ?_) (fun _ => hR' _ _ ⟨ms, rfl, dD5, dM5, dc5, by omega, e5⟩)
      refine ⟨_, rfl, .inl ⟨rfl, _, SqL.of dM5⟩, _, rfl, D, _, rfl, .inl (SqL.of dD5), M, _, _, rfl, rfl, dM5, small1000 (by rw [List.length_map]; omega), ?_⟩
      refine hR' _ _ ⟨ms ++ [(ur.length : Int)], rfl, by rw [upd_ne nDM]; exact dD5, by rw [upd_same, List.map_append]; rfl, by rw [upd_ne nMc]; exact dc5, by rw [List.length_append, List.length_singleton]; omega, fun c u z => ?_⟩
      rw [upd_ne (ne_of_none z fM)]
      exact e5 _ _ z
    rintro σ6 H6 ⟨ms', rfl, dD6, dM6, dc6, ml6, e6⟩
    refine ⟨_, rfl, .inl ⟨rfl, _, SqL.of dD6⟩, _, rfl, D, _, _, rfl, rfl, dD6, small1000 (by omega), ?_⟩
    refine ⟨_, _, ur ++ [.ref p], ms', rfl, upd_same, by rw [upd_ne nDM.symm]; exact dM6, by rw [upd_ne nDc]; exact dc6, fun u hu => ?_, by rw [List.length_append, List.length_singleton]; omega, ml6, fun c u z => ?_⟩
    · rcases List.mem_append.mp hu with y | y
      · exact hur u y
      · exact ⟨p, List.mem_singleton.mp y⟩
    · rw [upd_ne (ne_of_none z hD)]
      exact e6 _ _ z
  rintro σ H4 ⟨c4, c5, ur, ms, rfl, dD, dM, dc, hur, url, msl, e⟩
  exact ⟨_, rfl, q D ur H4 hD e dD hur (by omega)⟩
end
end K22

namespace K22
open PySem L2
local macro_rules | `(tactic| wtm_at "h") => `(tactic| first | assumption | exact upd_same)
local macro_rules | `(tactic| wtm_at "c") => `(tactic| first | exact p1018 | exact cmr (by decide) (by decide) | exact cm (by decide) (by decide) | exact cm (by omega) (by omega) | exact ⟨by decide, by decide⟩ | (dsimp only; omega) | omega | assumption)
local macro_rules | `(tactic| wtm_at "s") => `(tactic| first | refine ⟨_, rfl, ?_⟩ | refine ⟨_, _, rfl, rfl, ?_⟩ | refine ⟨rfl, ?_⟩ | refine ⟨_, _, _, _, rfl, rfl, SqT.of (by wtm_at "h"), rfl, ?_⟩ | refine ⟨_, _, _, _, rfl, rfl, SqL.of (by wtm_at "h"), rfl, ?_⟩ | refine And.intro (by wtm_at "c") ?_)
local macro_rules | `(tactic| wtm_at "ss") => `(tactic| repeat wtm_at "s")
/-! ### law -/
def spLaw (K : PySem.W.Frag) : Sp := fun vs H Q _ => ∃ (a : Addr) (ns : List Int), vs = [.ref a] ∧ SqL K H a (ns.map V.int) ∧ ns.length ≤ 63 ∧ ∀ H', Q (.bl true) H'
theorem says_alk {H : Hp} {p q : Addr} {us vs : List V} {ss : List Say} (Y : SaysAt H p us ss) (Z : SaysAt H q vs ss) (hl : ss.length ≤ 8388608) : Alk H 3 (.ref p) (.ref q) := by
  refine alk_lst Y.at_ Z.at_ (Y.each.1.trans Z.each.1.symm) (by rw [Z.each.1]; exact hl) fun i x y e1 e2 => ?_
  obtain ⟨s, hs, a, rfl, ha⟩ := Y.each.at e1
  obtain ⟨s', hs', b, rfl, hb⟩ := Z.each.at e2
  rw [hs] at hs'
  cases hs'
  refine alk_tup ha hb rfl ?_ fun j u v h1 h2 => ?_
  · rw [s.tup_eq, List.length_cons, List.length_map]
    have := figs_len s
    omega
  · rw [h1] at h2
    cases h2
    exact Alk.rfl' 0 (.inl (List.all_eq_true.mp (flat_say s) _ (List.mem_of_getElem? h1)))
section
variable {P : Program} {w : World} {K : PySem.W.Frag} {mg : Str → Option Value} {base : Heap}
theorem scLaw : FnScope ["script", "first", "boxes", "rows", "program", "told", "kept", "again"] ["script"] (defScope sLaw) := ⟨rfl, rfl, rfl, by decide +kernel, rfl, by decide +kernel, by decide +kernel⟩
theorem ok_law {e : Addr} {ed : FuncData} (F : Fun K "law" "law" sLaw e ed) (B : Blt mg) (cB : Cal P w K mg base 2 "_law_boxes" ["pot", "most", "names"] spBoxes) (cR : Cal P w K mg base 3 "_law_rows" ["script", "boxes"] (spRows K)) (cS : Cal P w K mg base 4 "sayings" ["program"] spSayings) (cG : Cal P w K mg base 3 "_law_good" ["told", "boxes"] spGood) : FnOk P w K mg base CX0 5 e ed ["script"] (spLaw K) := by
  refine F.ok scLaw (fun vs H Q E h => ?_) (fun cdv A outer s H vs Q E hr h => ?_)
  · obtain ⟨a, ns, rfl, _⟩ := h
    rfl
  obtain ⟨a0, ns, rfl, hS, h63, q⟩ := h
  have hr4 : Room 4 _ := hr
  have hr3 : Room 3 _ := hr.mono (by decide)
  have hr2 : Room 2 _ := hr.mono (by decide)
  have hr1 : Room 1 _ := hr.mono (by decide)
  refine ⟨_, (pss_cons (ps_set (i := 1) scLaw.nd rfl (Or.inl rfl) pe_int)
    (pss_cons (ps_if (pt_cmpR op_gt (pe_callB call_len_seq rfl B.len bt_len (pa_cons (pv 0) pa_nil)) pe_int (nomark _)) (pss_one (ps_set (i := 1) scLaw.nd rfl (Or.inl rfl) (pe_ix ix_list (pv 0) pe_int (fun _ _ => rfl)))) pss_nil)
    (pss_cons (ps_set (i := 2) scLaw.nd rfl (Or.inl rfl) (pe_cal cB hr2 rfl (pa_cons (pe_lst (pa_cons (pv 1) (pa_cons pe_int pa_nil))) (pa_cons pe_int (pa_cons (pe_lst (pa_cons pe_str (pa_cons pe_str (pa_cons pe_str (pa_cons pe_str pa_nil))))) pa_nil)))))
    (pss_cons (ps_set (i := 3) scLaw.nd rfl (Or.inl rfl) (pe_cal cR hr3 rfl (pa_cons (pv 0) (pa_cons (pv 2) pa_nil))))
    (pss_cons (ps_set (i := 4) scLaw.nd rfl (Or.inl rfl) (pe_tup (pa_cons (pe_callTy call_list_of rfl B.list bt_list (pa_cons (pv 2) pa_nil)) (pa_cons (pe_callTy call_list_of rfl B.list bt_list (pa_cons (pv 3) pa_nil)) pa_nil))))
    (pss_cons (ps_set (i := 5) scLaw.nd rfl (Or.inl rfl) (pe_cal cS hr4 rfl (pa_cons (pv 4) pa_nil)))
    (pss_cons (ps_if (pt_not (pt_val (pe_cal cG hr3 rfl (pa_cons (pv 5) (pa_cons (pv 2) pa_nil))))) (pss_one (ps_ret pe_bl)) pss_nil)
    (pss_cons (ps_set (i := 6) scLaw.nd rfl (Or.inl rfl) (pe_callTy call_list_of rfl B.list bt_list (pa_cons (pv 5) pa_nil)))
    (pss_cons (ps_expr (pe_bm0 PySem.F.plainAttrs_list PySem.F.slot_list_clear PySem.F.type_list_clear mt_clear (pv 5)))
    (pss_cons (ps_set (i := 7) scLaw.nd rfl (Or.inl rfl) (pe_cal cS hr4 rfl (pa_cons (pv 4) pa_nil)))
    (pss_one (ps_ret (pe_and (pe_cmpR (op_eqA hr1.units) (pv 7) (pv 6) (nomark _)) (pe_one (pe_cmpR (op_eqA hr1.units) (pv 4) (pe_tup (pa_cons (pv 2) (pa_cons (pv 3) pa_nil))) (nomark _)))))))))))))))), ?_⟩
  refine nxs (seq_cut (fun σ' H' => ∃ z : Int, σ' = [some (.ref a0), some (.int z), none, none, none, none, none, none] ∧ H' = H) (fun R' hR' => ?_) ?_)
  · refine ⟨_, rfl, a0, _, rfl, .inl hS, _, _, rfl, rfl, _, rfl, ?_⟩
    refine ite_d (fun c => ?_) (fun c => hR' _ _ ⟨0, rfl, rfl⟩)
    cases ns with
    | nil => exact absurd (show (0 : Int) < 0 from c) (by decide)
    | cons m mt =>
      refine ⟨_, rfl, a0, _, _, _, rfl, rfl, hS, at0, ?_⟩
      exact hR' _ _ ⟨m, rfl, rfl⟩
  rintro σ1 H1 ⟨z, rfl, rfl⟩
  refine ⟨_, rfl, (by show 2 ≤ sizeLine; decide), fun r hr0 => ?_⟩
  have e1 := Same.new hr0 (.lst [.int z, .int 0])
  have P1 : PotAt (upd H1 r (.lst [.int z, .int 0])) r := ⟨_, _, upd_same⟩
  generalize upd H1 r (.lst [.int z, .int 0]) = H2 at *
  refine ⟨(by show 4 ≤ sizeLine; decide), fun pn hpn => ?_⟩
  have nnr : pn ≠ r := P1.nn hpn
  have e2 := Same.new hpn (.lst [.str "a", .str "bb", .str "rest", .str "low"])
  have P4 := P1.mono e2
  have n4 : upd H2 pn (.lst [.str "a", .str "bb", .str "rest", .str "low"]) pn = some (.lst ((["a", "bb", "rest", "low"] : List Str).map V.str)) := upd_same
  have e12 := e1.trans e2
  generalize upd H2 pn (.lst [.str "a", .str "bb", .str "rest", .str "low"]) = H4 at *
  refine ⟨r, pn, 400, ["a", "bb", "rest", "low"], rfl, P4, by decide, by decide, n4, nnr, (Nat.le_refl 4), fun pb ub bs H5 hpb nbr b5 P5 X5 dr => ?_⟩
  have ok := dr.ok
  have l1 := dr.l1
  have l4 := dr.l4
  have e5 : Same H1 H5 := fun c u y => b5 _ _ (ne_of_none y hr0) (e12 _ _ y)
  have hlu := X5.each.1
  refine ⟨_, rfl, _, rfl, a0, pb, ub, bs, ns, rfl, e5.seq hS, h63, X5, l1, l4, fun pr ur H6 hpr e6 r6 hur url => ?_⟩
  have X6 := X5.same e6
  -- the program
  refine ⟨_, rfl, pb, ub, rfl, .inl (SqL.of X6.at_), fun g1 hg1 => ?_⟩
  have e7 := Same.new hg1 (.lst ub)
  refine ⟨_, rfl, pr, ur, rfl, .inl (SqL.of (e7 _ _ r6)), fun g2 hg2 => ?_⟩
  have e8 := Same.new hg2 (.lst ur)
  refine ⟨(by show 2 ≤ sizeLine; decide), fun g3 hg3 => ?_⟩
  have e9 := Same.new hg3 (.tup [.ref g1, .ref g2])
  have e89 := e8.trans e9
  have e79 := e7.trans e89
  have t1 := e89 _ _ (upd_same (H := H6) (a := g1) (o := .lst ub))
  have t2 := e9 _ _ (upd_same (H := upd H6 g1 (.lst ub)) (a := g2) (o := .lst ur))
  have t3 : (upd (upd (upd H6 g1 (.lst ub)) g2 (.lst ur)) g3 (.tup [.ref g1, .ref g2])) g3 = some (.tup [.ref g1, .ref g2]) := upd_same
  have X9 := X6.same e79
  have r9 := e79 _ _ r6
  clear e7 e8 e9 e89 e79 hg1 hg2 hg3
  generalize (upd (upd (upd H6 g1 (.lst ub)) g2 (.lst ur)) g3 (.tup [.ref g1, .ref g2])) = H9 at *
  have B9 : BoxesAt H9 g1 ub bs := ⟨t1, X9.each⟩
  refine ⟨_, rfl, g3, g1, .ref g2, ub, bs, rfl, t3, B9, ok, l4, fun pt ut H10 hpt e10 T10 tl => ?_⟩
  have tells := sayl_tells ok l1 l4
  refine ⟨_, rfl, _, rfl, pt, pb, ut, ub, sayl bs, bs, rfl, T10, X9.same e10, ok, l4, tells, fun H11 e11 => ?_⟩
  refine ⟨_, rfl, iteF ?_⟩
  have T11 := T10.same e11
  have hlt := T11.each.1
  refine ⟨_, rfl, pt, ut, rfl, .inl (SqL.of T11.at_), fun pk hpk => ?_⟩
  have e12' := Same.new hpk (.lst ut)
  have k12 : upd H11 pk (.lst ut) pk = some (.lst ut) := upd_same
  have T12 := T11.same e12'
  have npk : pt ≠ pk := ne_of_none T11.at_ hpk
  generalize upd H11 pk (.lst ut) = H12 at *
  -- cleared
  refine ⟨_, rfl, .inl ⟨rfl, _, SqL.of T12.at_⟩, pt, ut, rfl, rfl, T12.at_, ?_⟩
  have K13 : SaysAt (upd H12 pt (.lst [])) pk ut (sayl bs) := ⟨by rw [upd_ne npk.symm]; exact k12, T12.each.mono fun _ _ z => z.put T12.at_⟩
  have keep : ∀ c u, H9 c = some u → (upd H12 pt (.lst [])) c = some u := fun c u z => by
    rw [upd_ne (ne_of_none z hpt)]
    exact e12' _ _ (e11 _ _ (e10 _ _ z))
  generalize upd H12 pt (.lst []) = H13 at *
  refine ⟨_, rfl, g3, g1, .ref g2, ub, bs, rfl, keep _ _ t3, B9.same keep, ok, l4, fun pa ua H14 hpa e14 A14 al => ?_⟩
  have K14 := K13.same e14
  have k14 : Same H9 H14 := Same.trans keep e14
  refine ⟨_, rfl, _, rfl, 3, pa, pk, by decide, rfl, rfl, .inr ⟨_, A14.at_⟩, says_alk A14 K14 (by rw [← hlt]; omega), _, rfl, iteB rfl ?_⟩
  refine ⟨_, rfl, _, rfl, _, rfl, (by show 2 ≤ sizeLine; decide), fun pe hpe => ?_⟩
  have e15 := Same.new hpe (.tup [.ref pb, .ref pr])
  have k15 := k14.trans e15
  have refb : ∀ u ∈ ub, Pl u := fun u hu => by
    obtain ⟨i, hi, e⟩ := List.getElem_of_mem hu
    obtain ⟨o, _, p, e', _⟩ := X9.each.at (i := i) (x := u) (by rw [List.getElem?_eq_getElem hi, e])
    exact .inr ⟨p, e'⟩
  exact ⟨3, g3, pe, by decide, rfl, rfl, .inl ⟨_, k15 _ _ t3⟩, alk_pair (k15 _ _ t3) upd_same (alk_same 0 (k15 _ _ t1) (k15 _ _ X9.at_) (by omega) refb) (alk_same 0 (k15 _ _ t2) (k15 _ _ r9) (by omega) fun u hu => .inr (hur u hu)), q _⟩
end
end K22

namespace K22
open PySem L2
/-! ### the program's top -/
theorem all_mk {l : PySem.W.OpenLaw} {w : World} {K : PySem.W.Frag} {h : Heap} {mg : Str → Option Value} {fa f1 f2 f3 f4 f5 f6 f7 f8 f9 f10 f11 f12 f13 f14 f15 f16 f17 f18 f19 f20 f21 : Addr} (X : K.In h) (G : h.Ns mainGlobals mg) (hfa : mg "law" = some (.ref fa))
    {od1 an1 od2 an2 od3 an3 od4 an4 od5 an5 od6 an6 od7 an7 od8 an8 od9 an9 od10 an10 od11 an11 od12 an12 od13 an13 od14 an14 od15 an15 od16 an16 od17 an17 od18 an18 od19 an19 od20 an20 od21 an21 : Option Addr} {sl1 sl2 sl3 sl4 sl5 sl6 sl7 sl8 sl9 sl10 sl11 sl12 sl13 sl14 sl15 sl16 sl17 sl18 sl19 sl20 sl21 : Array (Option Value)} {oc1 kV1 dc1 pm1 cd1 ct1 oc2 kV2 dc2 pm2 cd2 ct2 oc3 kV3 dc3 pm3 cd3 ct3 oc4 kV4 dc4 pm4 cd4 ct4 oc5 kV5 dc5 pm5 cd5 ct5 oc6 kV6 dc6 pm6 cd6 ct6 oc7 kV7 dc7 pm7 cd7 ct7 oc8 kV8 dc8 pm8 cd8 ct8 oc9 kV9 dc9 pm9 cd9 ct9 oc10 kV10 dc10 pm10 cd10 ct10 oc11 kV11 dc11 pm11 cd11 ct11 oc12 kV12 dc12 pm12 cd12 ct12 oc13 kV13 dc13 pm13 cd13 ct13 oc14 kV14 dc14 pm14 cd14 ct14 oc15 kV15 dc15 pm15 cd15 ct15 oc16 kV16 dc16 pm16 cd16 ct16 oc17 kV17 dc17 pm17 cd17 ct17 oc18 kV18 dc18 pm18 cd18 ct18 oc19 kV19 dc19 pm19 cd19 ct19 oc20 kV20 dc20 pm20 cd20 ct20 oc21 kV21 dc21 pm21 cd21 ct21 : Value} {hk1 : Tok} {hk2 : Tok} {hk3 : Tok} {hk4 : Tok}
    (a1 : PySem.W.nsIn K mainGlobals "with_number" = some (some (.ref f1))) (l1 : K.lookup f1 = some ⟨oc1, od1, .func (PySem.W.fnOf "with_number" "with_number" (defArgs sPWithNumber) (defBody sPWithNumber) (defScope sPWithNumber) .none kV1 dc1 pm1 an1 cd1 ct1), sl1⟩) (c1 : PySem.W.codeIn K cd1 "with_number" = true) (k1 : PySem.W.keepIn K (.ref f1) = true)
    (a2 : PySem.W.nsIn K mainGlobals "rests" = some (some (.ref f2))) (l2 : K.lookup f2 = some ⟨oc2, od2, .func (PySem.W.fnOf "rests" "rests" (defArgs sPRests) (defBody sPRests) (defScope sPRests) .none kV2 dc2 pm2 an2 cd2 ct2), sl2⟩) (c2 : PySem.W.codeIn K cd2 "rests" = true) (k2 : PySem.W.keepIn K (.ref f2) = true)
    (a3 : PySem.W.nsIn K mainGlobals "eithers" = some (some (.ref f3))) (l3 : K.lookup f3 = some ⟨oc3, od3, .func (PySem.W.fnOf "eithers" "eithers" (defArgs sPEithers) (defBody sPEithers) (defScope sPEithers) .none kV3 dc3 pm3 an3 cd3 ct3), sl3⟩) (c3 : PySem.W.codeIn K cd3 "eithers" = true) (k3 : PySem.W.keepIn K (.ref f3) = true)
    (a4 : PySem.W.nsIn K mainGlobals "rising_pairs" = some (some (.ref f4))) (l4 : K.lookup f4 = some ⟨oc4, od4, .func (PySem.W.fnOf "rising_pairs" "rising_pairs" (defArgs sPRisingPairs) (defBody sPRisingPairs) (defScope sPRisingPairs) .none kV4 dc4 pm4 an4 cd4 ct4), sl4⟩) (c4 : PySem.W.codeIn K cd4 "rising_pairs" = true) (k4 : PySem.W.keepIn K (.ref f4) = true)
    (a5 : PySem.W.nsIn K mainGlobals "unlike_pairs" = some (some (.ref f5))) (l5 : K.lookup f5 = some ⟨oc5, od5, .func (PySem.W.fnOf "unlike_pairs" "unlike_pairs" (defArgs sPUnlikePairs) (defBody sPUnlikePairs) (defScope sPUnlikePairs) .none kV5 dc5 pm5 an5 cd5 ct5), sl5⟩) (c5 : PySem.W.codeIn K cd5 "unlike_pairs" = true) (k5 : PySem.W.keepIn K (.ref f5) = true)
    (a6 : PySem.W.nsIn K mainGlobals "with_pair" = some (some (.ref f6))) (l6 : K.lookup f6 = some ⟨oc6, od6, .func (PySem.W.fnOf "with_pair" "with_pair" (defArgs sPWithPair) (defBody sPWithPair) (defScope sPWithPair) .none kV6 dc6 pm6 an6 cd6 ct6), sl6⟩) (c6 : PySem.W.codeIn K cd6 "with_pair" = true) (k6 : PySem.W.keepIn K (.ref f6) = true)
    (a7 : PySem.W.nsIn K mainGlobals "with_pair_and_number" = some (some (.ref f7))) (l7 : K.lookup f7 = some ⟨oc7, od7, .func (PySem.W.fnOf "with_pair_and_number" "with_pair_and_number" (defArgs sPWithPairAndNumber) (defBody sPWithPairAndNumber) (defScope sPWithPairAndNumber) .none kV7 dc7 pm7 an7 cd7 ct7), sl7⟩) (c7 : PySem.W.codeIn K cd7 "with_pair_and_number" = true) (k7 : PySem.W.keepIn K (.ref f7) = true)
    (a8 : PySem.W.nsIn K mainGlobals "gaps" = some (some (.ref f8))) (l8 : K.lookup f8 = some ⟨oc8, od8, .func (PySem.W.fnOf "gaps" "gaps" (defArgs sPGaps) (defBody sPGaps) (defScope sPGaps) .none kV8 dc8 pm8 an8 cd8 ct8), sl8⟩) (c8 : PySem.W.codeIn K cd8 "gaps" = true) (k8 : PySem.W.keepIn K (.ref f8) = true)
    (a9 : PySem.W.nsIn K mainGlobals "with_three" = some (some (.ref f9))) (l9 : K.lookup f9 = some ⟨oc9, od9, .func (PySem.W.fnOf "with_three" "with_three" (defArgs sPWithThree) (defBody sPWithThree) (defScope sPWithThree) .none kV9 dc9 pm9 an9 cd9 ct9), sl9⟩) (c9 : PySem.W.codeIn K cd9 "with_three" = true) (k9 : PySem.W.keepIn K (.ref f9) = true)
    (a10 : PySem.W.nsIn K mainGlobals "sayings" = some (some (.ref f10))) (l10 : K.lookup f10 = some ⟨oc10, od10, .func (PySem.W.fnOf "sayings" "sayings" (defArgs sPSayings) (defBody sPSayings) (defScope sPSayings) .none kV10 dc10 pm10 an10 cd10 ct10), sl10⟩) (c10 : PySem.W.codeIn K cd10 "sayings" = true) (k10 : PySem.W.keepIn K (.ref f10) = true)
    (a11 : PySem.W.nsIn K mainGlobals "_law_next" = some (some (.ref f11))) (l11 : K.lookup f11 = some ⟨oc11, od11, .func (PySem.W.fnOf "_law_next" "_law_next" (defArgs sNext) (defBody sNext) (defScope sNext) .none kV11 dc11 pm11 an11 cd11 ct11), sl11⟩) (c11 : PySem.W.codeIn K cd11 "_law_next" = true) (k11 : PySem.W.keepIn K (.ref f11) = true)
    (a12 : PySem.W.nsIn K mainGlobals "_law_boxes" = some (some (.ref f12))) (l12 : K.lookup f12 = some ⟨oc12, od12, .func (PySem.W.fnOf "_law_boxes" "_law_boxes" (defArgs sBoxes) (defBody sBoxes) (defScope sBoxes) .none kV12 dc12 pm12 an12 cd12 ct12), sl12⟩) (c12 : PySem.W.codeIn K cd12 "_law_boxes" = true) (k12 : PySem.W.keepIn K (.ref f12) = true)
    (a13 : PySem.W.nsIn K mainGlobals "_law_statement" = some (some (.ref f13))) (l13 : K.lookup f13 = some ⟨oc13, od13, .func (PySem.W.fnOf "_law_statement" "_law_statement" (defArgs sStatement) (defBody sStatement) (defScope sStatement) .none kV13 dc13 pm13 an13 cd13 ct13), sl13⟩) (c13 : PySem.W.codeIn K cd13 "_law_statement" = true) (k13 : PySem.W.keepIn K (.ref f13) = true)
    (a14 : PySem.W.nsIn K mainGlobals "_law_rows" = some (some (.ref f14))) (l14 : K.lookup f14 = some ⟨oc14, od14, .func (PySem.W.fnOf "_law_rows" "_law_rows" (defArgs sRows) (defBody sRows) (defScope sRows) .none kV14 dc14 pm14 an14 cd14 ct14), sl14⟩) (c14 : PySem.W.codeIn K cd14 "_law_rows" = true) (k14 : PySem.W.keepIn K (.ref f14) = true)
    (a15 : PySem.W.nsIn K mainGlobals "_law_one_fits" = some (some (.ref f15))) (l15 : K.lookup f15 = some ⟨oc15, od15, .func (PySem.W.fnOf "_law_one_fits" "_law_one_fits" (defArgs sOneFits) (defBody sOneFits) (defScope sOneFits) .none kV15 dc15 pm15 an15 cd15 ct15), sl15⟩) (c15 : PySem.W.codeIn K cd15 "_law_one_fits" = true) (k15 : PySem.W.keepIn K (.ref f15) = true)
    (a16 : PySem.W.nsIn K mainGlobals "_law_more_fits" = some (some (.ref f16))) (l16 : K.lookup f16 = some ⟨oc16, od16, .func (PySem.W.fnOf "_law_more_fits" "_law_more_fits" (defArgs sMoreFits) (defBody sMoreFits) (defScope sMoreFits) .none kV16 dc16 pm16 an16 cd16 ct16), sl16⟩) (c16 : PySem.W.codeIn K cd16 "_law_more_fits" = true) (k16 : PySem.W.keepIn K (.ref f16) = true)
    (a17 : PySem.W.nsIn K mainGlobals "_law_rank" = some (some (.ref f17))) (l17 : K.lookup f17 = some ⟨oc17, od17, .func (PySem.W.fnOf "_law_rank" "_law_rank" (defArgs sRank) (defBody sRank) (defScope sRank) .none kV17 dc17 pm17 an17 cd17 ct17), sl17⟩) (c17 : PySem.W.codeIn K cd17 "_law_rank" = true) (k17 : PySem.W.keepIn K (.ref f17) = true)
    (a18 : PySem.W.nsIn K mainGlobals "_law_fits" = some (some (.ref f18))) (l18 : K.lookup f18 = some ⟨oc18, od18, .func (PySem.W.fnOf "_law_fits" "_law_fits" (defArgs sFits) (defBody sFits) (defScope sFits) .none kV18 dc18 pm18 an18 cd18 ct18), sl18⟩) (c18 : PySem.W.codeIn K cd18 "_law_fits" = true) (k18 : PySem.W.keepIn K (.ref f18) = true)
    (a19 : PySem.W.nsIn K mainGlobals "_law_count" = some (some (.ref f19))) (l19 : K.lookup f19 = some ⟨oc19, od19, .func (PySem.W.fnOf "_law_count" "_law_count" (defArgs sCount) (defBody sCount) (defScope sCount) .none kV19 dc19 pm19 an19 cd19 ct19), sl19⟩) (c19 : PySem.W.codeIn K cd19 "_law_count" = true) (k19 : PySem.W.keepIn K (.ref f19) = true)
    (a20 : PySem.W.nsIn K mainGlobals "_law_good" = some (some (.ref f20))) (l20 : K.lookup f20 = some ⟨oc20, od20, .func (PySem.W.fnOf "_law_good" "_law_good" (defArgs sGood) (defBody sGood) (defScope sGood) .none kV20 dc20 pm20 an20 cd20 ct20), sl20⟩) (c20 : PySem.W.codeIn K cd20 "_law_good" = true) (k20 : PySem.W.keepIn K (.ref f20) = true)
    (a21 : PySem.W.nsIn K mainGlobals "law" = some (some (.ref f21))) (l21 : K.lookup f21 = some ⟨oc21, od21, .func (PySem.W.fnOf "law" "law" (defArgs sLaw) (defBody sLaw) (defScope sLaw) .none kV21 dc21 pm21 an21 cd21 ct21), sl21⟩) (c21 : PySem.W.codeIn K cd21 "law" = true) (k21 : PySem.W.keepIn K (.ref f21) = true)
    (i1 : PySem.W.nsIn K mainGlobals "LEAST_DIVISOR" = some (some (.int 2 hk1)))
    (i2 : PySem.W.nsIn K mainGlobals "MOST_DIVISOR" = some (some (.int 6 hk2)))
    (i3 : PySem.W.nsIn K mainGlobals "WIDEST_GAP" = some (some (.int 20 hk3)))
    (i4 : PySem.W.nsIn K mainGlobals "WIDEST_SUM" = some (some (.int 40 hk4)))
    (z1 : PySem.W.nsIn K mainGlobals "bool" = some none) (z2 : PySem.W.nsIn K mainGlobals "enumerate" = some none) (z3 : PySem.W.nsIn K mainGlobals "int" = some none) (z4 : PySem.W.nsIn K mainGlobals "isinstance" = some none) (z5 : PySem.W.nsIn K mainGlobals "len" = some none) (z6 : PySem.W.nsIn K mainGlobals "list" = some none) (z7 : PySem.W.nsIn K mainGlobals "min" = some none) (z8 : PySem.W.nsIn K mainGlobals "range" = some none) (z9 : PySem.W.nsIn K mainGlobals "tuple" = some none) :
    ∃ fd : FuncData, (∀ (s : Shared) (v : Value), BindsTo s fd ⟨[v], []⟩ [("script", v)]) ∧ ∀ base : Heap, K.In base → base.Ns mainGlobals mg → FnOk l.prog w K mg base CX0 5 fa fd ["script"] (spLaw K) := by
  have e := hfa.symm.trans (PySem.W.mg_of X G a21)
  cases e
  have h_with_number : Has K mg "with_number" sPWithNumber ["form", "boxes", "above", "below"] := Has.mk X G a1 l1 c1 k1 fun _ _ _ _ _ _ us hl => match us, hl with | [_, _, _, _], _ => rfl
  have h_rests : Has K mg "rests" sPRests ["boxes"] := Has.mk X G a2 l2 c2 k2 fun _ _ _ _ _ _ us hl => match us, hl with | [_], _ => rfl
  have h_eithers : Has K mg "eithers" sPEithers ["boxes"] := Has.mk X G a3 l3 c3 k3 fun _ _ _ _ _ _ us hl => match us, hl with | [_], _ => rfl
  have h_rising_pairs : Has K mg "rising_pairs" sPRisingPairs ["boxes"] := Has.mk X G a4 l4 c4 k4 fun _ _ _ _ _ _ us hl => match us, hl with | [_], _ => rfl
  have h_unlike_pairs : Has K mg "unlike_pairs" sPUnlikePairs ["boxes"] := Has.mk X G a5 l5 c5 k5 fun _ _ _ _ _ _ us hl => match us, hl with | [_], _ => rfl
  have h_with_pair : Has K mg "with_pair" sPWithPair ["form", "pairs"] := Has.mk X G a6 l6 c6 k6 fun _ _ _ _ _ _ us hl => match us, hl with | [_, _], _ => rfl
  have h_with_pair_and_number : Has K mg "with_pair_and_number" sPWithPairAndNumber ["form", "boxes", "widest"] := Has.mk X G a7 l7 c7 k7 fun _ _ _ _ _ _ us hl => match us, hl with | [_, _, _], _ => rfl
  have h_gaps : Has K mg "gaps" sPGaps ["boxes"] := Has.mk X G a8 l8 c8 k8 fun _ _ _ _ _ _ us hl => match us, hl with | [_], _ => rfl
  have h_with_three : Has K mg "with_three" sPWithThree ["form", "boxes"] := Has.mk X G a9 l9 c9 k9 fun _ _ _ _ _ _ us hl => match us, hl with | [_, _], _ => rfl
  have h_sayings : Has K mg "sayings" sPSayings ["program"] := Has.mk X G a10 l10 c10 k10 fun _ _ _ _ _ _ us hl => match us, hl with | [_], _ => rfl
  have h__law_next : Has K mg "_law_next" sNext ["pot", "many"] := Has.mk X G a11 l11 c11 k11 fun _ _ _ _ _ _ us hl => match us, hl with | [_, _], _ => rfl
  have h__law_boxes : Has K mg "_law_boxes" sBoxes ["pot", "most", "names"] := Has.mk X G a12 l12 c12 k12 fun _ _ _ _ _ _ us hl => match us, hl with | [_, _, _], _ => rfl
  have h__law_statement : Has K mg "_law_statement" sStatement ["pot", "boxes", "marks"] := Has.mk X G a13 l13 c13 k13 fun _ _ _ _ _ _ us hl => match us, hl with | [_, _, _], _ => rfl
  have h__law_rows : Has K mg "_law_rows" sRows ["script", "boxes"] := Has.mk X G a14 l14 c14 k14 fun _ _ _ _ _ _ us hl => match us, hl with | [_, _], _ => rfl
  have h__law_one_fits : Has K mg "_law_one_fits" sOneFits ["s", "low", "high"] := Has.mk X G a15 l15 c15 k15 fun _ _ _ _ _ _ us hl => match us, hl with | [_, _, _], _ => rfl
  have h__law_more_fits : Has K mg "_law_more_fits" sMoreFits ["s", "many"] := Has.mk X G a16 l16 c16 k16 fun _ _ _ _ _ _ us hl => match us, hl with | [_, _], _ => rfl
  have h__law_rank : Has K mg "_law_rank" sRank ["s"] := Has.mk X G a17 l17 c17 k17 fun _ _ _ _ _ _ us hl => match us, hl with | [_], _ => rfl
  have h__law_fits : Has K mg "_law_fits" sFits ["s", "boxes"] := Has.mk X G a18 l18 c18 k18 fun _ _ _ _ _ _ us hl => match us, hl with | [_, _], _ => rfl
  have h__law_count : Has K mg "_law_count" sCount ["boxes"] := Has.mk X G a19 l19 c19 k19 fun _ _ _ _ _ _ us hl => match us, hl with | [_], _ => rfl
  have h__law_good : Has K mg "_law_good" sGood ["told", "boxes"] := Has.mk X G a20 l20 c20 k20 fun _ _ _ _ _ _ us hl => match us, hl with | [_, _], _ => rfl
  have F := fun_mk (st := sLaw) l21 c21 k21
  have B : Blt mg := ⟨PySem.W.mg_none_of X G z1, PySem.W.mg_none_of X G z2, PySem.W.mg_none_of X G z3, PySem.W.mg_none_of X G z4, PySem.W.mg_none_of X G z5, PySem.W.mg_none_of X G z6, PySem.W.mg_none_of X G z7, PySem.W.mg_none_of X G z8, PySem.W.mg_none_of X G z9⟩
  have gl : Glb K mg := ⟨⟨_, PySem.W.mg_of X G i1⟩, ⟨_, PySem.W.mg_of X G i2⟩, ⟨_, PySem.W.mg_of X G i3⟩, ⟨_, PySem.W.mg_of X G i4⟩⟩
  refine ⟨PySem.W.fnOf "law" "law" (defArgs sLaw) (defBody sLaw) (defScope sLaw) .none kV21 dc21 pm21 an21 cd21 ct21, fun s v => .of_eq rfl, fun base _ _ => ?_⟩
  have cN := ok_next (P := l.prog) (w := w) (base := base) h__law_next
  have cRi := ok_rising (P := l.prog) (w := w) (base := base) h_rising_pairs B
  have cWp := ok_wpn h_with_pair_and_number B cRi
  have cS := ok_sayings h_sayings gl (ok_withNumber h_with_number B) (ok_rests h_rests B gl) (ok_eithers h_eithers B) (ok_withPair h_with_pair) cRi (ok_unlike h_unlike_pairs B) (ok_gaps h_gaps gl cWp) cWp (ok_three h_with_three B cRi)
  exact ok_law F B (ok_boxes h__law_boxes B cN) (ok_rows h__law_rows B (ok_statement h__law_statement B cN)) cS (ok_good h__law_good B (ok_count h__law_count B) (ok_rank h__law_rank B) (ok_fits h__law_fits B (ok_oneFits h__law_one_fits B) (ok_moreFits h__law_more_fits B)))
theorem walk {l : PySem.W.OpenLaw} {q : Program} {loose : List Str} {XP : (Str → Option Value) → Heap → Prop} {YP : World → Heap → Prop} {d : DefRec} {K : Params → PySem.W.Frag} (hn : l.most = some 63) (hdf : d.params.defaults = [])
    (hY : ∀ (w : World) (h : Heap), YP w h → (K w.params).In h)
    (F : ∀ (w : World) (mg : Str → Option Value) (fa : Addr) (h : Heap), (K w.params).In h → h.Ns mainGlobals mg → mg d.name = some (.ref fa) →
      ∃ fd : FuncData, (∀ (s : Shared) (u : Value), BindsTo s fd ⟨[u], []⟩ [("script", u)]) ∧ ∀ base : Heap, (K w.params).In base → base.Ns mainGlobals mg → FnOk l.prog w (K w.params) mg base CX0 5 fa fd ["script"] (spLaw (K w.params))) :
    PySem.W.WalkO q loose XP YP l.row.toRowW d [] (fun f vs => PySem.call f vs) :=
  L2.walk_of (n := 63) (k := 5) (x := "script") (CX := fun _ => CX0) (sp := fun w => spLaw (K w.params)) hn (by decide) hdf ⟨rfl, by decide, by decide⟩ hY F (fun _ _ a ns hl _ hS => ⟨a, ns, rfl, hS, hl, fun _ => rfl⟩) fun _ _ _ _ _ z => z
end K22
open PySem PySem.W PyProof.Rows
set_option maxRecDepth 100000 in
set_option maxHeartbeats 0 in
theorem PySem.Challenge.cw_sayswho_k22_whole_all_sayings_holds : PySem.Challenge.rw_sayswho_k22_whole_all_sayings.Holds := by
  w_on; o_law; k_head; (case hw => w_witness2)
  k_fill
  refine K22.walk (l := PySem.Challenge.rw_sayswho_k22_whole_all_sayings) rfl rfl (fun w h Y => PySem.W.kIn_of Y) ?F
  case F =>
    intro w mg fa h KX G hmg
    refine' K22.all_mk KX G hmg ?a1 ?l1 ?c1 ?k1 ?a2 ?l2 ?c2 ?k2 ?a3 ?l3 ?c3 ?k3 ?a4 ?l4 ?c4 ?k4 ?a5 ?l5 ?c5 ?k5 ?a6 ?l6 ?c6 ?k6 ?a7 ?l7 ?c7 ?k7 ?a8 ?l8 ?c8 ?k8 ?a9 ?l9 ?c9 ?k9 ?a10 ?l10 ?c10 ?k10 ?a11 ?l11 ?c11 ?k11 ?a12 ?l12 ?c12 ?k12 ?a13 ?l13 ?c13 ?k13 ?a14 ?l14 ?c14 ?k14 ?a15 ?l15 ?c15 ?k15 ?a16 ?l16 ?c16 ?k16 ?a17 ?l17 ?c17 ?k17 ?a18 ?l18 ?c18 ?k18 ?a19 ?l19 ?c19 ?k19 ?a20 ?l20 ?c20 ?k20 ?a21 ?l21 ?c21 ?k21  ?i1 ?i2 ?i3 ?i4 ?z1 ?z2 ?z3 ?z4 ?z5 ?z6 ?z7 ?z8 ?z9
    (case a1 => k_is); (case l1 => k_is); (case c1 => k_is); (case k1 => k_is)
    (case a2 => k_is); (case l2 => k_is); (case c2 => k_is); (case k2 => k_is)
    (case a3 => k_is); (case l3 => k_is); (case c3 => k_is); (case k3 => k_is)
    (case a4 => k_is); (case l4 => k_is); (case c4 => k_is); (case k4 => k_is)
    (case a5 => k_is); (case l5 => k_is); (case c5 => k_is); (case k5 => k_is)
    (case a6 => k_is); (case l6 => k_is); (case c6 => k_is); (case k6 => k_is)
    (case a7 => k_is); (case l7 => k_is); (case c7 => k_is); (case k7 => k_is)
    (case a8 => k_is); (case l8 => k_is); (case c8 => k_is); (case k8 => k_is)
    (case a9 => k_is); (case l9 => k_is); (case c9 => k_is); (case k9 => k_is)
    (case a10 => k_is); (case l10 => k_is); (case c10 => k_is); (case k10 => k_is)
    (case a11 => k_is); (case l11 => k_is); (case c11 => k_is); (case k11 => k_is)
    (case a12 => k_is); (case l12 => k_is); (case c12 => k_is); (case k12 => k_is)
    (case a13 => k_is); (case l13 => k_is); (case c13 => k_is); (case k13 => k_is)
    (case a14 => k_is); (case l14 => k_is); (case c14 => k_is); (case k14 => k_is)
    (case a15 => k_is); (case l15 => k_is); (case c15 => k_is); (case k15 => k_is)
    (case a16 => k_is); (case l16 => k_is); (case c16 => k_is); (case k16 => k_is)
    (case a17 => k_is); (case l17 => k_is); (case c17 => k_is); (case k17 => k_is)
    (case a18 => k_is); (case l18 => k_is); (case c18 => k_is); (case k18 => k_is)
    (case a19 => k_is); (case l19 => k_is); (case c19 => k_is); (case k19 => k_is)
    (case a20 => k_is); (case l20 => k_is); (case c20 => k_is); (case k20 => k_is)
    (case a21 => k_is); (case l21 => k_is); (case c21 => k_is); (case k21 => k_is)
    (case i1 => k_is)
    (case i2 => k_is)
    (case i3 => k_is)
    (case i4 => k_is)
    (case z1 => k_is); (case z2 => k_is); (case z3 => k_is); (case z4 => k_is); (case z5 => k_is); (case z6 => k_is); (case z7 => k_is); (case z8 => k_is); (case z9 => k_is)
#print axioms PySem.Challenge.cw_sayswho_k22_whole_all_sayings_holds

