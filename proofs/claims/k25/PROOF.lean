import PyProof.Rows.All
import Wide.All
import OpenK.AllK
import Wide.FinOn
import Lean
import PyProof.EqAt
import PyProof.EqKinds
import PyProof.TupleCall
import PySem.Challenge.RW_sayswho_k25_sayings_refused
set_option Elab.async false
set_option linter.all false
set_option maxRecDepth 100000
namespace L2
open PySem PySem.Spec PyProof.Rows
abbrev Key := Sum Int Str
def keyIs : Key -> Value -> Bool
  | .inl k, v => Value.isInt k v
  | .inr x, v => Value.isStrOf x v
def keyH (w : World) : Key -> Int
  | .inl k => hashInt k
  | .inr x => hashStr w x
theorem nZ : ∀ {k : Key} {v : Value}, keyIs k v = true -> (∃ i t, k = Sum.inl i /\ v = Value.int i t) \/ (∃ x t, k = Sum.inr x /\ v = Value.str x t)
  | .inl i, v, h => by
    obtain ⟨t, e⟩ := Value.isInt_shape (k := i) (v := v) h
    exact .inl ⟨i, t, rfl, e⟩
  | .inr x, v, h => by
    obtain ⟨t, e⟩ := Value.isStrOf_shape (x := x) (v := v) h
    exact .inr ⟨x, t, rfl, e⟩
theorem keyIs_int (i : Int) (t : Tok) : keyIs (.inl i) (.int i t) = true := by simp [keyIs, Value.isInt]
theorem keyIs_str (x : Str) (t : Tok) : keyIs (.inr x) (.str x t) = true := by simp [keyIs, Value.isStrOf]
theorem key_ll (a b : Int) : decide ((Sum.inl a : Key) = Sum.inl b) = (a == b) := by
  by_cases e : a = b
  . subst e; simp
  . have h : ¬ (Sum.inl a : Key) = Sum.inl b := fun q => e (Sum.inl.inj q)
    rw [decide_eq_false h]
    exact (beq_eq_false_iff_ne.mpr e).symm
theorem key_rr (a b : Str) : decide ((Sum.inr a : Key) = Sum.inr b) = decide (a = b) := by
  by_cases e : a = b
  . subst e; simp
  . have h : ¬ (Sum.inr a : Key) = Sum.inr b := fun q => e (Sum.inr.inj q)
    rw [decide_eq_false h, decide_eq_false e]
theorem key_lr (a : Int) (b : Str) : decide ((Sum.inl a : Key) = Sum.inr b) = false := decide_eq_false (fun q => nomatch q)
theorem key_rl (a : Str) (b : Int) : decide ((Sum.inr a : Key) = Sum.inl b) = false := decide_eq_false (fun q => nomatch q)
def mixKind (prog : Program) (w : World) : PySem.KeyKind prog w Key where
  is := keyIs
  hash := keyH w
  inj := fun v a b ha hb => by
    rcases nZ ha with ⟨i, t, rfl, rfl⟩ | ⟨x, t, rfl, rfl⟩
    . rcases nZ hb with ⟨j, u, rfl, e⟩ | ⟨y, u, rfl, e⟩
      . injection e with e1 _; rw [e1]
      . exact nomatch e
    . rcases nZ hb with ⟨j, u, rfl, e⟩ | ⟨y, u, rfl, e⟩
      . exact nomatch e
      . injection e with e1 _; rw [e1]
  byValue := fun k v h => by
    rcases nZ h with ⟨i, t, rfl, rfl⟩ | ⟨x, t, rfl, rfl⟩ <;> rfl
  pyHash := fun hv h => by
    rcases nZ hv with ⟨i, t, rfl, rfl⟩ | ⟨x, t, rfl, rfl⟩
    . exact wpAny_pyHash_int h
    . exact wpAny_pyHash_str h
  eqBool := fun hu hv h => by
    rcases nZ hu with ⟨i, t, rfl, rfl⟩ | ⟨x, t, rfl, rfl⟩
    . rcases nZ hv with ⟨j, u, rfl, rfl⟩ | ⟨y, u, rfl, rfl⟩
      . rw [key_ll] at h; exact wpAny_eqBool_int h
      . rw [key_lr] at h; exact SeqAt.EqAt.int_str i t y u _ _ _ _ h
    . rcases nZ hv with ⟨j, u, rfl, rfl⟩ | ⟨y, u, rfl, rfl⟩
      . rw [key_rl] at h; exact SeqAt.EqAt.str_int x t j u _ _ _ _ h
      . rw [key_rr] at h; exact wpAny_eqBool_str h
  «strs» := fun k x t v h => by
    rcases nZ h with ⟨i, u, rfl, e⟩ | ⟨y, u, rfl, e⟩
    . exact nomatch e
    . injection e with e1 _
      subst e1
      cases v <;> rfl
theorem nK (prog : Program) (w : World) (i : Int) (t : Tok) : (mixKind prog w).is (.inl i) (.int i t) = true := keyIs_int i t
theorem rJ (prog : Program) (w : World) (x : Str) (t : Tok) : (mixKind prog w).is (.inr x) (.str x t) = true := keyIs_str x t
end L2
namespace L2
open PySem PySem.Spec PyProof.Rows
inductive V where
  | non | bl (b : Bool) | int (i : Int) | str (x : Str) | byt (b : Array UInt8) | flt (b : UInt64) | ref (a : Addr) | ty (n : String)
  deriving DecidableEq
def RelV : V -> Value -> Prop
  | .non, u => u = Value.none
  | .bl b, u => u = Value.bool b
  | .int i, u => ∃ t, u = Value.int i t
  | .str x, u => ∃ t, u = Value.str x t
  | .byt b, u => ∃ t, u = Value.bytes b t
  | .flt b, u => ∃ t, u = Value.float b t
  | .ref a, u => u = Value.ref a
  | .ty n, u => u = Value.type n
abbrev Vals : List V -> List Value -> Prop := Paired RelV
theorem Vals.length {xs : List V} {us : List Value} (r : Vals xs us) : xs.length = us.length := Paired.length r
theorem Vals.get : ∀ {xs : List V} {us : List Value} {i : Nat} {x : V}, Vals xs us -> xs[i]? = some x -> ∃ u, us[i]? = some u /\ RelV x u
  | _, _, _, _, .nil, e => by simp at e
  | _, _, 0, _, .cons r _, e => by simp at e; subst e; exact ⟨_, rfl, r⟩
  | _, _, i + 1, x, .cons _ t, e => by
    obtain ⟨u, h1, h2⟩ := Vals.get (i := i) (x := x) t (by simpa using e)
    exact ⟨u, by simpa using h1, h2⟩
theorem Vals.set {x : V} {u : Value} (r : RelV x u) : ∀ {xs : List V} {us : List Value} (i : Nat), Vals xs us -> Vals (xs.set i x) (us.set i u)
  | _, _, _, .nil => .nil
  | _, _, 0, .cons _ t => .cons r t
  | _, _, i + 1, .cons q t => .cons q (Vals.set r i t)
theorem Vals.append : ∀ {xs ys : List V} {us ws : List Value}, Vals xs us -> Vals ys ws -> Vals (xs ++ ys) (us ++ ws)
  | _, _, _, _, .nil, s => s
  | _, _, _, _, .cons r t, s => .cons r (Vals.append t s)
theorem Vals.take : ∀ {xs : List V} {us : List Value} (n : Nat), Vals xs us -> Vals (xs.take n) (us.take n)
  | _, _, 0, _ => .nil
  | _, _, _ + 1, .nil => .nil
  | _, _, n + 1, .cons r t => .cons r (Vals.take n t)
theorem Vals.drop : ∀ {xs : List V} {us : List Value} (n : Nat), Vals xs us -> Vals (xs.drop n) (us.drop n)
  | _, _, 0, r => r
  | _, _, _ + 1, .nil => .nil
  | _, _, n + 1, .cons _ t => Vals.drop n t
def RelO : Option V -> Option Value -> Prop
  | some v, some u => RelV v u
  | none, none => True
  | _, _ => False
def KV {κ : Type} : List (κ × V) -> List (κ × Value) -> Prop := Paired fun (p : κ × V) (q : κ × Value) => p.1 = q.1 /\ RelV p.2 q.2
def kV : Key -> V
  | .inl i => .int i
  | .inr x => .str x
inductive HO where
    | lst (xs : List V)
    | tup (xs : List V)
    | dK (kvs : List (Key × V)) | dT (kvs : List (List Key × V))
    | set (S : Int -> Bool) (n : Nat)
    | ins (C dx : Addr) (fs : List (Str × V))
    | own (x : Addr)
    | xd (fs : List (Str × V))
    | met (f x : Addr)
    | rng (lo hi : Int)
    | frz (o : Obj) (u : HO)
    | tbl (ps : Array Value)
    | ext (φ : Heap -> Prop)
abbrev Hp := Addr -> Option HO
def upd (H : Hp) (a : Addr) (o : HO) : Hp := fun b => if b = a then some o else H b
theorem jQ {H : Hp} {a : Addr} {o : HO} : upd H a o a = some o := by unfold upd; rw [if_pos rfl]
theorem sQ {H : Hp} {a b : Addr} {o : HO} (h : b ≠ a) : upd H a o b = H b := by unfold upd; rw [if_neg h]
theorem upd_upd {H : Hp} {a : Addr} {o u : HO} : upd (upd H a o) a u = upd H a u := by
  funext b; unfold upd; split <;> rfl
theorem oK {H : Hp} {a b : Addr} {o u : HO} (h : H a = some o) (h' : H b = some u) (d : o ≠ u) : a ≠ b := by
  intro e; subst e; rw [h] at h'; exact d (Option.some.inj h')
theorem qQ {H : Hp} {a b : Addr} {o : HO} (h : H a = some o) (h' : H b = none) : a ≠ b := by
  intro e; subst e; rw [h] at h'; cases h'
section
variable (P : Program) (w : World)
def ObjOk (H : Hp) (h : Heap) (a : Addr) : HO -> Prop
  | .lst xs => xs.length <= sizeLine /\ ∃ (its : List Value) (n : Nat), Vals xs its /\ h.get? a = some { cls := .type "list", data := .seq its.toArray n }
  | .tup xs => xs.length <= sizeLine /\ ∃ its : List Value, Vals xs its /\ IsTup h a its.toArray
  | .dK kvs => kvs.length <= sizeLine /\ (a == sysModules) = false /\ ∃ vs, KV kvs vs /\ h.DictOf (mixKind P w) a vs
  | .dT kvs => kvs.length <= sizeLine /\ (a == sysModules) = false /\ ∃ xs : List (List Key × Addr × Value),
      Paired (fun (p : List Key × V) (q : List Key × Addr × Value) => p.1 = q.1 /\ H q.2.1 = some (.tup (p.1.map kV)) /\ RelV p.2 q.2.2) kvs xs /\
      ∃ o es ep, h.get? a = some o /\ o.ExactDict /\ o.data = .dict es ep /\ es.toList = xs.map (entryOfKey (tupleKind (mixKind P w))) /\ (xs.map (·.1)).Nodup
  | .set S n => h.SetOf (intKind P w) a S n
  | .ins C dx fs => H dx = some (.own a) /\ fs.length <= 1000 /\ dx ≠ a /\ h.get? a = some (PySem.W.instObj C dx) /\
      ∃ mA, h.Ns1 dx mA /\ (∀ f, RelO (fs.lookup f) (mA f)) /\ PySem.Within mA (fs.map (·.1))
  | .own _ => ∃ o, h.get? a = some o
  | .xd fs => ∃ mA, h.Ns1 a mA /\ ∀ f, RelO (fs.lookup f) (mA f)
  | .rng lo hi => ∃ t u v, h.get? a = some { cls := .type "range", data := .fields #[.int lo t, .int hi u, .int 1 v] }
  | .frz o u => h.get? a = some o /\ ObjOk H h a u
  | .tbl ps => h.get? a = some { cls := .none, data := .fields ps }
  | .met f x => h.get? a = some (PySem.W.methodObj (.ref f) (.ref x))
  | .ext φ => φ h /\ (∃ o, h.get? a = some o) /\ ∀ h1 h2 : Heap, φ h1 -> (∀ o, h1.get? a = some o -> h2.get? a = some o) -> φ h2
def HOk (H : Hp) (h : Heap) : Prop := ∀ a o, H a = some o -> ObjOk P w H h a o
end
section
variable {P : Program} {w : World} {H H' : Hp} {h h' : Heap} {a : Addr} {o : HO}
theorem ObjOk.lt (x : ObjOk P w H h a o) : a < h.objs.size := by
  cases o with
  | lst xs => obtain ⟨_, _, _, _, e⟩ := x; exact Heap.lt_size e
  | tup xs => obtain ⟨_, _, _, p⟩ := x; exact p.lt
  | dK kvs => obtain ⟨_, _, _, _, o, _, _, e, _⟩ := x; exact Heap.lt_size e
  | dT kvs => obtain ⟨_, _, _, _, o, _, _, e, _⟩ := x; exact Heap.lt_size e
  | set S n => obtain ⟨o, _, _, _, e, _⟩ := x; exact Heap.lt_size e
  | ins C dx fs => obtain ⟨_, _, _, e, _⟩ := x; exact Heap.lt_size e
  | own y => obtain ⟨_, e⟩ := x; exact Heap.lt_size e
  | xd fs => obtain ⟨_, ⟨_, _, _, e, _⟩, _⟩ := x; exact Heap.lt_size e
  | rng lo hi => obtain ⟨_, _, _, e⟩ := x; exact Heap.lt_size e
  | frz ob u => obtain ⟨e, _⟩ := x; exact Heap.lt_size e
  | tbl ps => exact Heap.lt_size (show h.get? a = some _ from x)
  | met f y => exact Heap.lt_size (show h.get? a = some _ from x)
  | ext φ => obtain ⟨_, ⟨_, e⟩, _⟩ := x; exact Heap.lt_size e
theorem Paired.mapP {α β : Type} {F G : α -> β -> Prop} : ∀ {l₁ : List α} {l₂ : List β}, Paired F l₁ l₂ -> (∀ a b, F a b -> G a b) -> Paired G l₁ l₂
  | _, _, .nil, _ => .nil
  | _, _, .cons r t, f => .cons (f _ _ r) (Paired.mapP t f)
theorem ObjOk.stay (x : ObjOk P w H h a o) (k : ∀ b u, (b = a \/ H b = some (.own a)) -> h.get? b = some u -> h'.get? b = some u)
    (ho : ∀ b, H b = some (.own a) -> H' b = some (.own a)) (ht : ∀ b xs, H b = some (.tup xs) -> H' b = some (.tup xs)) : ObjOk P w H' h' a o := by
  induction o with
  | lst xs => obtain ⟨z, its, n, r, e⟩ := x; exact ⟨z, its, n, r, k _ _ (.inl rfl) e⟩
  | tup xs => obtain ⟨z, its, r, ob, e, c⟩ := x; exact ⟨z, its, r, ob, k _ _ (.inl rfl) e, c⟩
  | dK kvs => obtain ⟨z, y, vs, r, ob, es, ep, e, c⟩ := x; exact ⟨z, y, vs, r, ob, es, ep, k _ _ (.inl rfl) e, c⟩
  | dT kvs =>
    obtain ⟨z, y, xs, r, ob, es, ep, e, c⟩ := x
    exact ⟨z, y, xs, Paired.mapP r fun p q z => ⟨z.1, ht _ _ z.2.1, z.2.2⟩, ob, es, ep, k _ _ (.inl rfl) e, c⟩
  | set S n => obtain ⟨ob, es, ep, t, e, c⟩ := x; exact ⟨ob, es, ep, t, k _ _ (.inl rfl) e, c⟩
  | ins C dx fs =>
    obtain ⟨d, z, ne, e, mA, ⟨od, es, ep, e2, c⟩, r⟩ := x
    exact ⟨ho _ d, z, ne, k _ _ (.inl rfl) e, mA, ⟨od, es, ep, k _ _ (.inr d) e2, c⟩, r⟩
  | own y => obtain ⟨ob, e⟩ := x; exact ⟨ob, k _ _ (.inl rfl) e⟩
  | xd fs => obtain ⟨mA, ⟨od, es, ep, e, c⟩, r⟩ := x; exact ⟨mA, ⟨od, es, ep, k _ _ (.inl rfl) e, c⟩, r⟩
  | rng lo hi => obtain ⟨t, u, v, e⟩ := x; exact ⟨t, u, v, k _ _ (.inl rfl) e⟩
  | frz ob u ih => obtain ⟨e, q⟩ := x; exact ⟨k _ _ (.inl rfl) e, ih q⟩
  | tbl ps =>
    have e : h.get? a = some { cls := .none, data := .fields ps } := x
    show h'.get? a = some { cls := .none, data := .fields ps }
    exact k a _ (.inl rfl) e
  | met f y =>
    have e : h.get? a = some (PySem.W.methodObj (.ref f) (.ref y)) := x
    show h'.get? a = some (PySem.W.methodObj (.ref f) (.ref y))
    exact k a _ (.inl rfl) e
  | ext φ => obtain ⟨p, ⟨o, e⟩, st⟩ := x; exact ⟨st _ _ p fun o q => k _ _ (.inl rfl) q, ⟨o, k _ _ (.inl rfl) e⟩, st⟩
theorem HOk.lt (x : HOk P w H h) (e : H a = some o) : a < h.objs.size := (x a o e).lt
theorem HOk.fresh (x : HOk P w H h) (e : h.objs.size <= a) : H a = none := by
  cases q : H a with
  | none => rfl
  | some u => exact absurd (Nat.lt_of_lt_of_le (x.lt q) e) (Nat.lt_irrefl _)
theorem HOk.kept (x : HOk P w H h) (k : ∀ b u, h.get? b = some u -> h'.get? b = some u) : HOk P w H h' := fun a o e =>
  (x a o e).stay (fun b u _ q => k b u q) (fun _ q => q) fun _ _ q => q
theorem HOk.laid (x : HOk P w H h) (k : ∀ b u, h.get? b = some u -> h'.get? b = some u) (hp : h.objs.size <= a) (new : ObjOk P w (upd H a o) h' a o) : HOk P w (upd H a o) h' := fun b u e => by
  have hn := x.fresh hp
  by_cases hb : b = a
  . subst hb; rw [jQ] at e; cases e; exact new
  . rw [sQ hb] at e
    exact (x b u e).stay (fun c v _ q => k c v q) (fun c q => by rw [sQ (qQ q hn)]; exact q) fun c xs q => by rw [sQ (qQ q hn)]; exact q
end
def Rd (H : Hp) (a : Addr) (u : HO) : Prop := H a = some u \/ ∃ o, H a = some (.frz o u)
theorem Rd.of {H : Hp} {a : Addr} {u : HO} (h : H a = some u) : Rd H a u := .inl h
theorem Rd.ok {P : Program} {w : World} {H : Hp} {h : Heap} {a : Addr} {u : HO} (r : Rd H a u) (x : HOk P w H h) : ObjOk P w H h a u := by
  rcases r with r | ⟨o, r⟩
  . exact x a u r
  . obtain ⟨_, q⟩ := x a _ r
    exact q
def Mut : Option HO -> Prop
  | some (.lst _) => True
  | some (.dK _) => True
  | some (.dT _) => True
  | some (.set _ _) => True
  | some (.ins _ _ _) => True
  | some (.ext _) => True
  | _ => False
section
variable {P : Program} {w : World} {H : Hp} {h h' : Heap} {x e : Addr} {o' : HO}
theorem HOk.write (ok : HOk P w H h) (mu : Mut (H x)) (he : e = x \/ H e = some (.own x)) (k : ∀ b u, b ≠ e -> h.get? b = some u -> h'.get? b = some u) (heo : ∃ u, h'.get? e = some u)
    (new : ObjOk P w (upd H x o') h' x o') : HOk P w (upd H x o') h' := fun b u q => by
  have nown : ∀ c y, H c = some (.own y) -> c ≠ x := fun c y r z => by subst z; rw [r] at mu; exact mu
  have ntup : ∀ c xs, H c = some (.tup xs) -> c ≠ x := fun c xs r z => by subst z; rw [r] at mu; exact mu
  by_cases hb : b = x
  . subst hb; rw [jQ] at q; cases q; exact new
  . rw [sQ hb] at q
    by_cases hbe : b = e
    . have q' : H b = some (.own x) := by
        rcases he with z | z
        . exact absurd (hbe.trans z) hb
        . rw [hbe]; exact z
      rw [q] at q'; cases q'
      obtain ⟨v, hv⟩ := heo
      exact ⟨v, by rw [hbe]; exact hv⟩
    . refine (ok b u q).stay (fun c v hc r => k c v ?_ r) (fun c r => by rw [sQ (nown c b r)]; exact r) fun c xs r => by rw [sQ (ntup c xs r)]; exact r
      rcases hc with rfl | hc
      . exact hbe
      . rintro rfl
        rcases he with z | z
        . exact nown c b hc z
        . rw [hc] at z; cases z; exact hb rfl
end
structure Un (fs ex : List Addr) (H H' : Hp) (h h' : Heap) : Prop where
  keep : ∀ b o, h.get? b = some o -> H b = none -> b ∉ fs -> b ∉ ex -> h'.get? b = some o
  slot : ∀ b o, h.get? b = some o -> H b = none -> b ∈ fs -> b ∉ ex -> ∃ sl, h'.get? b = some { o with slots := sl }
  free : ∀ b o, h.get? b = some o -> H b = none -> b ∉ ex -> H' b = none
  there : ∀ b o, h.get? b = some o -> b ∉ ex -> ∃ o', h'.get? b = some o'
  tups : ∀ b xs, H b = some (.tup xs) -> H' b = some (.tup xs)
  frzs : ∀ b o u, H b = some (.frz o u) -> H' b = some (.frz o u)
  tbls : ∀ b ps, H b = some (.tbl ps) -> ∃ more, H' b = some (.tbl (ps ++ more))
section
variable {fs fs' ex ex' : List Addr} {H H1 H2 : Hp} {h h1 h2 h' : Heap} {a x e : Addr} {o : HO}
theorem Un.any (u : Un fs ex H H1 h h1) {b : Addr} {ob : Obj} (q : h.get? b = some ob) (n : H b = none) (hx : b ∉ ex) : ∃ sl, h1.get? b = some { ob with slots := sl } := by
  by_cases hb : b ∈ fs
  . exact u.slot b ob q n hb hx
  . exact ⟨ob.slots, u.keep b ob q n hb hx⟩
theorem Un.trans (a : Un fs ex H H1 h h1) (b : Un fs ex H1 H2 h1 h2) : Un fs ex H H2 h h2 where
  keep := fun c ob q n hc hx => b.keep c ob (a.keep c ob q n hc hx) (a.free c ob q n hx) hc hx
  slot := fun c ob q n hc hx => by
    obtain ⟨sl, e1⟩ := a.slot c ob q n hc hx
    obtain ⟨sl', e2⟩ := b.slot c _ e1 (a.free c ob q n hx) hc hx
    exact ⟨sl', e2⟩
  free := fun c ob q n hx => by
    obtain ⟨o', e1⟩ := a.there c ob q hx
    exact b.free c o' e1 (a.free c ob q n hx) hx
  there := fun c ob q hx => by
    obtain ⟨o', e1⟩ := a.there c ob q hx
    exact b.there c o' e1 hx
  tups := fun c xs q => b.tups c xs (a.tups c xs q)
  frzs := fun c ob xs q => b.frzs c ob xs (a.frzs c ob xs q)
  tbls := fun c ps q => by
    obtain ⟨m1, e1⟩ := a.tbls c ps q
    obtain ⟨m2, e2⟩ := b.tbls c _ e1
    exact ⟨m1 ++ m2, by rw [e2, Array.append_assoc]⟩
theorem Un.kept (k : ∀ b u, h.get? b = some u -> h'.get? b = some u) : Un fs ex H H h h' :=
  ⟨fun b ob q _ _ _ => k b ob q, fun b ob q _ _ _ => ⟨ob.slots, k b ob q⟩, fun _ _ _ n _ => n, fun b ob q _ => ⟨ob, k b ob q⟩, fun _ _ q => q, fun _ _ _ q => q, fun _ ps q => ⟨#[], by rw [q]; simp⟩⟩
theorem Un.refl : Un fs ex H H h h := Un.kept fun _ _ q => q
theorem Un.laid (k : ∀ b u, h.get? b = some u -> h'.get? b = some u) (hp : h.objs.size <= a) (hn : H a = none) : Un fs ex H (upd H a o) h h' where
  keep := fun b u q _ _ _ => k b u q
  slot := fun b u q _ _ _ => ⟨u.slots, k b u q⟩
  free := fun b u q n _ => by rw [sQ (Nat.ne_of_lt (Nat.lt_of_lt_of_le (Heap.lt_size q) hp))]; exact n
  there := fun b u q _ => ⟨u, k b u q⟩
  tups := fun b xs q => by rw [sQ (qQ q hn)]; exact q
  frzs := fun b u xs q => by rw [sQ (qQ q hn)]; exact q
  tbls := fun b ps q => ⟨#[], by rw [sQ (qQ q hn), q]; simp⟩
theorem Un.write (mu : Mut (H x)) (he : e = x \/ H e = some (.own x)) (k : ∀ b u, b ≠ e -> h.get? b = some u -> h'.get? b = some u) (heo : ∃ u, h'.get? e = some u) : Un fs ex H (upd H x o) h h' := by
  have hx : ∀ b, H b = none -> b ≠ x := fun b n z => by subst z; rw [n] at mu; exact mu
  have hb : ∀ b, H b = none -> b ≠ e := fun b n z => by
    subst z
    rcases he with r | r
    . exact hx b n r
    . rw [n] at r; cases r
  have hm : ∀ b u, H b = some u -> ¬ Mut (some u) -> b ≠ x := fun b u q nm z => by subst z; rw [q] at mu; exact nm mu
  refine ⟨fun b u q n _ _ => k b u (hb b n) q, fun b u q n _ _ => ⟨u.slots, k b u (hb b n) q⟩, fun b u q n _ => by rw [sQ (hx b n)]; exact n, fun b u q _ => ?_,
    fun b xs q => by rw [sQ (hm b _ q fun z => z)]; exact q, fun b u xs q => by rw [sQ (hm b _ q fun z => z)]; exact q, fun b ps q => ⟨#[], by rw [sQ (hm b _ q fun z => z), q]; simp⟩⟩
  by_cases hbe : b = e
  . subst hbe; exact heo
  . exact ⟨u, k b u hbe q⟩
theorem Un.mono (u : Un fs ex H H1 h h1) (hs : ∀ b ∈ fs, b ∈ fs') (hx : ∀ b ∈ ex, b ∈ ex') : Un fs' ex' H H1 h h1 :=
  ⟨fun b ob q n hb he => u.keep b ob q n (fun z => hb (hs b z)) fun z => he (hx b z), fun _ _ q n _ he => u.any q n fun z => he (hx _ z), fun b ob q n he => u.free b ob q n fun z => he (hx b z), fun b ob q he => u.there b ob q fun z => he (hx b z), u.tups, u.frzs, u.tbls⟩
end
def trk (h : Heap) (H : Hp) : List Addr := (List.range h.objs.size).filter fun a => (H a).isSome
def hidT (h : Heap) (H : Hp) : Heap := PySem.W.hideAll h (trk h H)
theorem hidT_size (h : Heap) (H : Hp) : (hidT h H).objs.size = h.objs.size := PySem.W.hideAll_size _ _
theorem hidT_get {h : Heap} {H : Hp} {b : Addr} {o : Obj} (e : h.get? b = some o) (n : H b = none) : (hidT h H).get? b = some o :=
  PySem.W.hideAll_get _ e fun hm => by
    have q : (H b).isSome = true := (List.mem_filter.mp hm).2
    rw [n] at q; simp at q
theorem of_hidT {h : Heap} {H : Hp} {b : Addr} {o : Obj} (e : (hidT h H).get? b = some o) : h.get? b = some o /\ H b = none := by
  have e' : h.get? b = some o := PySem.W.of_hideAll (trk h H) e
  refine ⟨e', ?_⟩
  cases q : H b with
  | none => rfl
  | some x =>
    have hm : b ∈ trk h H := List.mem_filter.mpr ⟨List.mem_range.mpr (Heap.lt_size e'), by simp [q]⟩
    have z : (hidT h H).get? b = none := PySem.W.hideAll_none (trk h H) hm
    rw [z] at e; cases e
def allNews (g h : Heap) (L : Addr) : List (Addr × Obj) := (List.range h.objs.size).filterMap fun a => if a = L \/ (g.get? a).isSome = true then none else (h.get? a).map fun o => (a, o)
def rest (g h : Heap) (L d : Addr) : List (Addr × Obj) := (allNews g h L).filter fun p => decide (p.1 ≠ d)
end L2
namespace L2
open PySem PySem.Spec PyProof.Rows
structure Mod (K : PySem.W.Frag) (mg : Str -> Option Value) (base : Heap) : Prop where
  kin : K.In base
  glob : base.Ns mainGlobals mg
  blt : ∃ mb, base.Ns builtinsNs mb /\ ∀ x : Str, x ≠ "__name__" -> mb x = bootBuiltins x
  nolimit : base.NoLimit
structure Cx where
  prog : Program
  w : World
  K : PySem.W.Frag
  mg : Str -> Option Value
  base : Heap
  A : Around
  N : List Str
  s₀ : Shared
  H₀ : Hp
  env : Env
  outer : List Env
  stack : List Env
  ex : List Addr
  fn : Str -> Bool
  calm : Bool
  pn : List (Addr × Obj)
  xe : Value -> Shared -> Prop
def frs (l : List Env) : List Addr := l.filterMap (·.frame)
abbrev Cx.fs (X : Cx) : List Addr := frs X.outer
def Vis (sc : Scope) (x : Str) : Prop := sc.names.lookup x = some .local \/ sc.names.lookup x = some .cell \/ sc.names.lookup x = some .free
def Loc (sc : Scope) (x : Str) : Prop := sc.names.lookup x = some .local \/ sc.names.lookup x = some .cell
def Look (env : Env) (h : Heap) (m : Str -> Option Value) (x : Str) (u : Value) : Prop :=
  (env.kindOf x = some .local /\ m x = some u) \/ ((env.kindOf x = some .cell \/ env.kindOf x = some .free) /\ ∃ c, env.cells.lookup x = some c /\ h.IsCell c (some u))
structure Cx.Ok (X : Cx) : Prop where
  mod : Mod X.K X.mg X.base
  kind : X.env.scope.kind = .function
  glob : X.env.globals = mainGlobals
  blt : X.env.builtins = builtinsNs
  above : X.s₀.heap.objs.size <= X.env.locals
  inj : ∀ x y c, X.env.cells.lookup x = some c -> X.env.cells.lookup y = some c -> x = y
  has : ∀ x, (X.env.kindOf x = some .cell \/ X.env.kindOf x = some .free) -> ∃ c, X.env.cells.lookup x = some c
  cab : ∀ x c, X.fn x = true -> X.env.cells.lookup x = some c -> X.s₀.heap.objs.size <= c
  hd : X.calm = true -> X.A.handled = none
  frames : X.A.frames = some X.stack
  stk : X.stack = X.outer \/ (X.stack = X.env :: X.outer /\ X.env.frame = some X.env.locals)
  exf : ∀ b ∈ X.ex, b ≠ X.env.locals /\ ∀ x c, X.env.cells.lookup x = some c -> c ≠ b
  bs : ∀ b o, X.base.get? b = some o -> X.s₀.heap.get? b = some o /\ X.H₀ b = none
  bsz : X.base.objs.size <= X.s₀.heap.objs.size
  noex : ∀ b o, X.base.get? b = some o -> b ∉ X.ex
  exfs : ∀ b ∈ X.ex, b ∉ X.fs
  funs : X.s₀.heap.FunFrames X.base X.outer
  frf : ∀ b ∈ X.fs, X.H₀ b = none
structure Inv (X : Cx) (pins : List (Addr × Obj)) (σ : List (Option V)) (H : Hp) (s : Shared) : Prop where
  ok : X.Ok
  os : s.os = X.s₀.os
  bare : AllBare s.gens
  base : Un X.fs X.ex X.H₀ H X.s₀.heap s.heap
  loc : ∃ m, s.heap.Ns X.env.locals m /\ ∀ (i : Nat) (x : Str) (v : V), X.N[i]? = some x -> σ[i]? = some (some v) -> Vis X.env.scope x -> ∃ u, RelV v u /\ Look X.env s.heap m x u
  cell : ∀ x c, X.env.cells.lookup x = some c -> ∃ v, s.heap.IsCell c v
  free : H X.env.locals = none
  freeC : ∀ x c, X.env.cells.lookup x = some c -> H c = none
  pin : ∀ p ∈ X.pn ++ pins, s.heap.get? p.1 = some p.2 /\ H p.1 = none /\ p.1 ≠ X.env.locals /\ p.1 ∉ X.fs /\ ∀ v, p.2.data ≠ .cell v
  hok : HOk X.prog X.w H s.heap
  len : σ.length = X.N.length
section
variable {X : Cx} {pins : List (Addr × Obj)} {σ : List (Option V)} {H H' : Hp} {s : Shared} {h' : Heap}
theorem Cx.Ok.nofr (ok : X.Ok) {b : Addr} {o : Obj} (e : X.base.get? b = some o) : b ∉ X.fs := fun hb => by
  have := (ok.funs.mem hb).1
  rw [e] at this; cases this
theorem Inv.bs (I : Inv X pins σ H s) : ∀ b o, X.base.get? b = some o -> s.heap.get? b = some o /\ H b = none := fun b o e =>
  ⟨I.base.keep b o (I.ok.bs b o e).1 (I.ok.bs b o e).2 (I.ok.nofr e) (I.ok.noex b o e), I.base.free b o (I.ok.bs b o e).1 (I.ok.bs b o e).2 (I.ok.noex b o e)⟩
theorem Inv.bk (I : Inv X pins σ H s) : ∀ b o, X.base.get? b = some o -> s.heap.get? b = some o := fun b o e => (I.bs b o e).1
theorem Inv.mod (I : Inv X pins σ H s) : Mod X.K X.mg X.base := I.ok.mod
theorem Inv.kIn (I : Inv X pins σ H s) : X.K.In s.heap := I.ok.mod.kin.keeps I.bk
theorem Inv.nolimit (I : Inv X pins σ H s) : s.heap.NoLimit := I.ok.mod.nolimit.keeps I.bk
theorem Inv.fr (I : Inv X pins σ H s) : ∃ m, Fr X.base X.env.locals s.heap m :=
  let ⟨m, hn, _⟩ := I.loc
  ⟨m, hn, I.bk, Nat.le_trans I.ok.bsz I.ok.above⟩
theorem Inv.lt (I : Inv X pins σ H s) : X.env.locals < s.heap.objs.size := let ⟨_, hn, _⟩ := I.loc; hn.lt
theorem Inv.sz (I : Inv X pins σ H s) : X.s₀.heap.objs.size <= s.heap.objs.size := Nat.le_trans I.ok.above (Nat.le_of_lt I.lt)
theorem Inv.nofs (I : Inv X pins σ H s) {a : Addr} (h : s.heap.objs.size <= a) : a ∉ X.fs := fun hb => by
  obtain ⟨_, o, ho, _⟩ := I.ok.funs.mem hb
  exact absurd (Nat.lt_of_lt_of_le (Heap.lt_size ho) (Nat.le_trans I.sz h)) (Nat.lt_irrefl _)
theorem Inv.cne (I : Inv X pins σ H s) : ∀ x c, X.env.cells.lookup x = some c -> c ≠ X.env.locals := fun x c e z => by
  obtain ⟨v, o, ho, hd⟩ := I.cell x c e
  obtain ⟨m, ⟨o', es, ep, ho', hd', _⟩, _⟩ := I.loc
  rw [z, ho'] at ho; cases ho; rw [hd'] at hd; cases hd
theorem Inv.funs (I : Inv X pins σ H s) : s.heap.FunFrames X.base X.outer := by
  have all : ∀ (l : List Env), (∀ b ∈ frs l, b ∈ X.fs) -> X.s₀.heap.FunFrames X.base l -> s.heap.FunFrames X.base l := by
    intro l
    induction l with
    | nil => intro _ _; trivial
    | cons env r ih =>
      intro hs hl
      obtain ⟨hk, ⟨L, o, hf, hn, ho, hd⟩, hr⟩ := hl
      have hL : L ∈ X.fs := hs L (by unfold frs; rw [List.filterMap_cons, hf]; exact List.mem_cons_self)
      obtain ⟨sl, e⟩ := I.base.slot L o ho (I.ok.frf L hL) hL fun z => I.ok.exfs L z hL
      exact ⟨hk, ⟨L, _, hf, hn, e, hd⟩, ih (fun b hb => hs b (by unfold frs; rw [List.filterMap_cons, hf]; exact List.mem_cons_of_mem _ hb)) hr⟩
  exact all X.outer (fun _ hb => hb) I.ok.funs
theorem Inv.stack (I : Inv X pins σ H s) : s.heap.FunFrames X.base X.stack := by
  rcases I.ok.stk with e | ⟨e, hf⟩
  . rw [e]; exact I.funs
  . rw [e]
    obtain ⟨m, hn, _⟩ := I.loc
    refine .cons (by rw [I.ok.kind]; decide) hf hn ?_ I.funs
    exact Heap.get?_none_of_le (Nat.le_trans I.ok.bsz I.ok.above)
theorem Inv.stkSub (I : Inv X pins σ H s) : ∀ b ∈ frs X.stack, b ∈ X.env.locals :: X.fs := fun b hb => by
  rcases I.ok.stk with e | ⟨e, hf⟩
  . rw [e] at hb; exact List.mem_cons_of_mem _ hb
  . rw [e] at hb
    unfold frs at hb
    rw [List.filterMap_cons, hf] at hb
    exact hb
theorem Inv.stkFree (I : Inv X pins σ H s) : ∀ b ∈ frs X.stack, H b = none := fun b hb => by
  rcases List.mem_cons.mp (I.stkSub b hb) with e | hb
  . rw [e]; exact I.free
  . obtain ⟨_, o, ho, _⟩ := I.ok.funs.mem hb
    exact I.base.free b o ho (I.ok.frf b hb) fun z => I.ok.exfs b z hb
theorem Inv.step {g' : Array GenState} {t' : Nat} {d' : Drawn} {ch : List Addr} (I : Inv X pins σ H s)
    (hch : ∀ b ∈ ch, (b ∈ X.ex \/ X.s₀.heap.objs.size <= b) /\ b ≠ X.env.locals /\ (∀ x c, X.env.cells.lookup x = some c -> c ≠ b) /\ ∀ p ∈ X.pn ++ pins, p.1 ≠ b)
    (keep : ∀ b o, b ≠ X.env.locals -> b ∉ X.fs -> b ∉ ch -> s.heap.get? b = some o -> H b = none -> h'.get? b = some o)
    (slot : ∀ b o, b ≠ X.env.locals -> b ∈ X.fs -> b ∉ ch -> s.heap.get? b = some o -> H b = none -> ∃ sl, h'.get? b = some { o with slots := sl }) (free : ∀ b o, b ∉ ch -> s.heap.get? b = some o -> H b = none -> H' b = none)
    (there : ∀ b o, b ∉ ch -> s.heap.get? b = some o -> ∃ o', h'.get? b = some o')
    (tups : ∀ b xs, H b = some (.tup xs) -> H' b = some (.tup xs)) (frzs : ∀ b o u, H b = some (.frz o u) -> H' b = some (.frz o u)) (tbls : ∀ b ps, H b = some (.tbl ps) -> ∃ more, H' b = some (.tbl (ps ++ more)))
    (ns : ∀ m, s.heap.Ns X.env.locals m -> h'.Ns X.env.locals m) (hok : HOk X.prog X.w H' h') (hg : AllBare g') :
    Inv X pins σ H' { s with heap := h', gens := g', drawn := d', toks := t' } := by
  have neL : ∀ b o, X.s₀.heap.get? b = some o -> b ≠ X.env.locals := fun b o e => Nat.ne_of_lt (Nat.lt_of_lt_of_le (Heap.lt_size e) I.ok.above)
  have neC : ∀ b o, X.s₀.heap.get? b = some o -> b ∉ X.ex -> b ∉ ch := fun b o e hx hb => by
    rcases (hch b hb).1 with z | z
    . exact hx z
    . exact absurd (Nat.lt_of_lt_of_le (Heap.lt_size e) z) (Nat.lt_irrefl _)
  have cellK : ∀ x c, X.env.cells.lookup x = some c -> ∀ v, s.heap.IsCell c v -> h'.IsCell c v := fun x c e v ⟨o, ho, hd⟩ => by
    have nch : c ∉ ch := fun z => (hch c z).2.2.1 x c e rfl
    by_cases hc : c ∈ X.fs
    . obtain ⟨sl, q⟩ := slot c o (I.cne x c e) hc nch ho (I.freeC x c e)
      exact ⟨_, q, hd⟩
    . exact ⟨o, keep c o (I.cne x c e) hc nch ho (I.freeC x c e), hd⟩
  refine ⟨I.ok, I.os, hg, ⟨fun b o e n hb hx => ?_, fun b o e n hb hx => ?_, fun b o e n hx => ?_, fun b o e hx => ?_, fun b xs e => tups b xs (I.base.tups b xs e), fun b o xs e => frzs b o xs (I.base.frzs b o xs e), fun b ps e => ?_⟩, ?_, fun x c e => ?_, ?_, fun x c e => ?_, fun p hp => ?_, hok, I.len⟩
  . exact keep b o (neL b o e) hb (neC b o e hx) (I.base.keep b o e n hb hx) (I.base.free b o e n hx)
  . obtain ⟨sl, e1⟩ := I.base.slot b o e n hb hx
    obtain ⟨sl', e2⟩ := slot b _ (neL b o e) hb (neC b o e hx) e1 (I.base.free b o e n hx)
    exact ⟨sl', e2⟩
  . obtain ⟨o', e1⟩ := I.base.there b o e hx
    exact free b o' (neC b o e hx) e1 (I.base.free b o e n hx)
  . obtain ⟨o', e1⟩ := I.base.there b o e hx
    exact there b o' (neC b o e hx) e1
  . obtain ⟨m1, e1⟩ := I.base.tbls b ps e
    obtain ⟨m2, e2⟩ := tbls b _ e1
    exact ⟨m1 ++ m2, by rw [e2, Array.append_assoc]⟩
  . obtain ⟨m, hn, hl⟩ := I.loc
    refine ⟨m, ns m hn, fun i x v e1 e2 e3 => ?_⟩
    obtain ⟨u, r, l⟩ := hl i x v e1 e2 e3
    refine ⟨u, r, ?_⟩
    rcases l with l | ⟨k, c, e, z⟩
    . exact .inl l
    . exact .inr ⟨k, c, e, cellK x c e _ z⟩
  . obtain ⟨v, z⟩ := I.cell x c e
    exact ⟨v, cellK x c e v z⟩
  . obtain ⟨m, ⟨o, _, _, ho, _⟩, _⟩ := I.loc
    exact free _ o (fun z => (hch _ z).2.1 rfl) ho I.free
  . obtain ⟨v, o, ho, hd⟩ := I.cell x c e
    exact free c o (fun z => (hch c z).2.2.1 x c e rfl) ho (I.freeC x c e)
  . obtain ⟨e, n, ne, nf, d⟩ := I.pin p hp
    have nch : p.1 ∉ ch := fun z => (hch p.1 z).2.2.2 p hp rfl
    exact ⟨keep p.1 p.2 ne nf nch e n, free p.1 p.2 nch e n, ne, nf, d⟩
theorem Inv.un {t' : Nat} (I : Inv X pins σ H s) (u : Un X.fs [] H H' s.heap h') (hok : HOk X.prog X.w H' h') : Inv X pins σ H' { s with heap := h', toks := t' } := by
  obtain ⟨m, ⟨o, es, ep, ho, r⟩, _⟩ := id I.loc
  obtain ⟨sl, hL⟩ := u.any ho I.free (by simp)
  exact I.step (g' := s.gens) (d' := s.drawn) (ch := []) (fun _ z => nomatch z) (fun b o _ hb _ e n => u.keep b o e n hb (by simp)) (fun b o _ hb _ e n => u.slot b o e n hb (by simp)) (fun b o _ e n => u.free b o e n (by simp)) (fun b o _ e => u.there b o e (by simp)) u.tups u.frzs u.tbls (fun m' hm => by
    obtain ⟨o', es', ep', ho', r'⟩ := hm
    rw [ho] at ho'; cases ho'
    exact ⟨_, es', ep', hL, r'⟩) hok I.bare
theorem Inv.call {g' : Array GenState} {t' : Nat} {d' : Drawn} {ch : List Addr} (I : Inv X pins σ H s) (u : Un (frs X.stack) ch H H' s.heap h') (hok : HOk X.prog X.w H' h') (hg : AllBare g')
    (hch : ∀ b ∈ ch, (b ∈ X.ex \/ X.s₀.heap.objs.size <= b) /\ b ≠ X.env.locals /\ (∀ x c, X.env.cells.lookup x = some c -> c ≠ b) /\ ∀ p ∈ X.pn ++ pins, p.1 ≠ b) :
    Inv X pins σ H' { s with heap := h', gens := g', drawn := d', toks := t' } := by
  obtain ⟨m, ⟨o, es, ep, ho, r⟩, _⟩ := id I.loc
  obtain ⟨sl, hL⟩ := u.any ho I.free fun z => (hch _ z).2.1 rfl
  exact I.step (ch := ch) hch (fun b o hL hb hc e n => u.keep b o e n (fun z => (List.mem_cons.mp (I.stkSub b z)).elim hL hb) hc) (fun b o _ _ hc e n => u.any e n hc) (fun b o hc e n => u.free b o e n hc) (fun b o hc e => u.there b o e hc) u.tups u.frzs u.tbls (fun m' hm => by
    obtain ⟨o', es', ep', ho', r'⟩ := hm
    rw [ho] at ho'; cases ho'
    exact ⟨_, es', ep', hL, r'⟩) hok hg
theorem Inv.turned {t' : Nat} {it : Addr} (I : Inv X pins σ H s) (k : ∀ b o, b ≠ it -> s.heap.get? b = some o -> h'.get? b = some o) (hn : H it = none) (hL : it ≠ X.env.locals)
    (h1 : it ∈ X.ex \/ X.s₀.heap.objs.size <= it) (h2 : ∀ x c, X.env.cells.lookup x = some c -> c ≠ it) (h3 : ∀ p ∈ X.pn ++ pins, p.1 ≠ it) : Inv X pins σ H { s with heap := h', toks := t' } := by
  have nit : ∀ b u, H b = some u -> b ≠ it := fun b u e z => by rw [z, hn] at e; cases e
  refine I.step (g' := s.gens) (d' := s.drawn) (ch := [it]) (fun b hb => ?_) (fun b o _ _ hc e _ => k b o (fun z => hc (by simp [z])) e) (fun b o _ _ hc e _ => ⟨o.slots, k b o (fun z => hc (by simp [z])) e⟩) (fun _ _ _ _ n => n)
    (fun b o hc e => ⟨o, k b o (fun z => hc (by simp [z])) e⟩) (fun _ _ e => e) (fun _ _ _ e => e) (fun b ps e => ⟨#[], by rw [e]; simp⟩) (fun m hm => ?_) (fun b u e => ?_) I.bare
  . have e : b = it := by simpa using hb
    subst e
    exact ⟨h1, hL, h2, h3⟩
  . obtain ⟨o, es, ep, ho, r⟩ := hm
    exact ⟨o, es, ep, k _ o (Ne.symm hL) ho, r⟩
  . refine (I.hok b u e).stay (fun c v hc q => k c v ?_ q) (fun _ q => q) fun _ _ q => q
    rcases hc with z | z
    . rw [z]; exact nit b u e
    . exact nit c _ z
theorem Inv.tok (I : Inv X pins σ H s) (t : Nat) : Inv X pins σ H { s with toks := t } := I.un (h' := s.heap) (t' := t) Un.refl I.hok
theorem Inv.kept {t' : Nat} (I : Inv X pins σ H s) (k : ∀ b u, s.heap.get? b = some u -> h'.get? b = some u) : Inv X pins σ H { s with heap := h', toks := t' } := I.un (Un.kept k) (I.hok.kept k)
theorem Inv.laid {a : Addr} {o : HO} {t' : Nat} (I : Inv X pins σ H s) (k : ∀ b u, s.heap.get? b = some u -> h'.get? b = some u) (hp : s.heap.objs.size <= a) (new : ObjOk X.prog X.w (upd H a o) h' a o) :
    Inv X pins σ (upd H a o) { s with heap := h', toks := t' } := I.un (Un.laid k hp (I.hok.fresh hp)) (I.hok.laid k hp new)
theorem Inv.write {x e : Addr} {o : HO} {t' : Nat} (I : Inv X pins σ H s) (mu : Mut (H x)) (he : e = x \/ H e = some (.own x)) (k : ∀ b u, b ≠ e -> s.heap.get? b = some u -> h'.get? b = some u) (heo : ∃ u, h'.get? e = some u)
    (new : ObjOk X.prog X.w (upd H x o) h' x o) : Inv X pins σ (upd H x o) { s with heap := h', toks := t' } := I.un (Un.write mu he k heo) (I.hok.write mu he k heo new)
theorem Inv.pins_of {pins' : List (Addr × Obj)} (I : Inv X pins σ H s) (h : ∀ p ∈ pins', s.heap.get? p.1 = some p.2 /\ H p.1 = none /\ p.1 ≠ X.env.locals /\ p.1 ∉ X.fs /\ ∀ v, p.2.data ≠ .cell v) : Inv X pins' σ H s :=
  ⟨I.ok, I.os, I.bare, I.base, I.loc, I.cell, I.free, I.freeC, fun p hp => (List.mem_append.mp hp).elim (fun z => I.pin p (List.mem_append_left _ z)) (h p), I.hok, I.len⟩
theorem oV {N : List Str} (hN : N.Nodup) {i j : Nat} {x : Str} (a : N[i]? = some x) (b : N[j]? = some x) : i = j := by
  obtain ⟨h1, e1⟩ := List.getElem?_eq_some_iff.mp a
  obtain ⟨h2, e2⟩ := List.getElem?_eq_some_iff.mp b
  exact (List.getElem_inj hN).mp (e1.trans e2.symm)
theorem fY {M : Model} {A : Around} {E : Value -> Shared -> Prop} {i : Nat} {x : Str} {v : V} {u : Value} {Q : Unit -> Shared -> Prop} (I : Inv X pins σ H s) (hN : X.N.Nodup) (hi : X.N[i]? = some x) (hx : Loc X.env.scope x) (r : RelV v u)
    (h : ∀ s', Inv X pins (σ.set i (some v)) H s' -> (∃ a, Heap.SameBut a s.heap s'.heap /\ (a = X.env.locals \/ X.env.cells.lookup x = some a)) -> Q () s') (hf : X.fn x = true \/ X.env.scope.names.lookup x = some .local := by first | exact .inl rfl | exact .inr rfl | assumption) : wpAny M A (storeName X.env x u) Q E s := by
  obtain ⟨m, hn, hl⟩ := id I.loc
  have hcls : (X.env.scope.kind == .class || (X.env.scope.kind == .module && X.env.locals != X.env.globals)) = false := by rw [I.ok.kind]; rfl
  have hiσ : i < σ.length := by rw [I.len]; exact (List.getElem?_eq_some_iff.mp hi).1
  have cne := I.cne
  have tracked : ∀ {a : Addr} {h' : Heap}, (∃ o, s.heap.get? a = some o /\ H a = none) -> Heap.SameBut a s.heap h' -> HOk X.prog X.w H h' := fun {a h'} ha hs b ob e => by
    obtain ⟨_, _, hfree⟩ := ha
    refine (I.hok b ob e).stay (fun c w' hc q => (hs.2 c ?_).trans q) (fun _ q => q) fun _ _ q => q
    rintro rfl
    rcases hc with rfl | hc
    . rw [hfree] at e; cases e
    . rw [hfree] at hc; cases hc
  rcases hx with hk | hk
  . refine wpAny_storeName_local hk hn (fun h' hn' hs => ?_) hcls
    obtain ⟨oL, _, _, hoL, _⟩ := id hn
    refine h _ ⟨I.ok, I.os, I.bare, ⟨fun b o e n hb hx => ?_, fun b o e n hb hx => ?_, I.base.free, fun b o e hx => ?_, I.base.tups, I.base.frzs, I.base.tbls⟩, ⟨_, hn', fun j y v' e1 e2 e3 => ?_⟩, fun y c e => ?_, I.free, I.freeC, fun p hp => ?_, tracked ⟨oL, hoL, I.free⟩ hs, by simpa using I.len⟩ ⟨_, hs, .inl rfl⟩
    . exact (hs.2 b (Nat.ne_of_lt (Nat.lt_of_lt_of_le (Heap.lt_size e) I.ok.above))).trans (I.base.keep b o e n hb hx)
    . obtain ⟨sl, e1⟩ := I.base.slot b o e n hb hx
      exact ⟨sl, (hs.2 b (Nat.ne_of_lt (Nat.lt_of_lt_of_le (Heap.lt_size e) I.ok.above))).trans e1⟩
    . obtain ⟨o', e1⟩ := I.base.there b o e hx
      exact ⟨o', (hs.2 b (Nat.ne_of_lt (Nat.lt_of_lt_of_le (Heap.lt_size e) I.ok.above))).trans e1⟩
    . by_cases hj : j = i
      . subst hj
        rw [hi] at e1; cases e1
        rw [List.getElem?_set_self hiσ] at e2
        cases e2
        exact ⟨u, r, .inl ⟨hk, by simp⟩⟩
      . rw [List.getElem?_set_ne (Ne.symm hj)] at e2
        obtain ⟨u', r', q⟩ := hl j y v' e1 e2 e3
        refine ⟨u', r', ?_⟩
        rcases q with ⟨k, e⟩ | ⟨k, c, e, z⟩
        . refine .inl ⟨k, ?_⟩
          have : y ≠ x := fun e => hj (oV hN e1 (e ▸ hi))
          simp [this, e]
        . exact .inr ⟨k, c, e, z.sameBut hs (cne y c e)⟩
    . obtain ⟨w', z⟩ := I.cell y c e
      exact ⟨w', z.sameBut hs (cne y c e)⟩
    . obtain ⟨e, n, ne, nf, d⟩ := I.pin p hp
      exact ⟨(hs.2 p.1 ne).trans e, n, ne, nf, d⟩
  . have hfn : X.fn x = true := by
      rcases hf with z | z
      . exact z
      . rw [z] at hk; cases hk
    obtain ⟨c, hc⟩ := I.ok.has x (.inl hk)
    obtain ⟨w', z⟩ := I.cell x c hc
    refine wpAny_storeName_cell I.ok.kind hk hc z (fun h' hc' hs => ?_)
    obtain ⟨oc, hoc, hocd⟩ := id z
    refine h { s with heap := h' } ⟨I.ok, I.os, I.bare, ⟨fun b o e n hb hx => ?_, fun b o e n hb hx => ?_, I.base.free, fun b o e hx => ?_, I.base.tups, I.base.frzs, I.base.tbls⟩, ⟨m, hn.sameBut hs (Ne.symm (cne x c hc)), fun j y v' e1 e2 e3 => ?_⟩, fun y c' e => ?_, I.free, I.freeC, fun p hp => ?_, tracked ⟨oc, hoc, I.freeC x c hc⟩ hs, by simpa using I.len⟩ ⟨c, hs, .inr hc⟩
    . exact (hs.2 b (Nat.ne_of_lt (Nat.lt_of_lt_of_le (Heap.lt_size e) (I.ok.cab x c hfn hc)))).trans (I.base.keep b o e n hb hx)
    . obtain ⟨sl, e1⟩ := I.base.slot b o e n hb hx
      exact ⟨sl, (hs.2 b (Nat.ne_of_lt (Nat.lt_of_lt_of_le (Heap.lt_size e) (I.ok.cab x c hfn hc)))).trans e1⟩
    . obtain ⟨o', e1⟩ := I.base.there b o e hx
      exact ⟨o', (hs.2 b (Nat.ne_of_lt (Nat.lt_of_lt_of_le (Heap.lt_size e) (I.ok.cab x c hfn hc)))).trans e1⟩
    . by_cases hj : j = i
      . subst hj
        rw [hi] at e1; cases e1
        rw [List.getElem?_set_self hiσ] at e2
        cases e2
        exact ⟨u, r, .inr ⟨.inl hk, c, hc, hc'⟩⟩
      . rw [List.getElem?_set_ne (Ne.symm hj)] at e2
        obtain ⟨u', r', q⟩ := hl j y v' e1 e2 e3
        refine ⟨u', r', ?_⟩
        rcases q with q | ⟨k, c', e, z'⟩
        . exact .inl q
        . refine .inr ⟨k, c', e, z'.sameBut hs ?_⟩
          rintro rfl
          exact hj (oV hN e1 (I.ok.inj _ _ _ e hc ▸ hi))
    . by_cases hcc : c' = c
      . subst hcc; exact ⟨_, hc'⟩
      . obtain ⟨w2, z2⟩ := I.cell y c' e
        exact ⟨w2, z2.sameBut hs hcc⟩
    . obtain ⟨e, n, ne, nf, d⟩ := I.pin p hp
      refine ⟨(hs.2 p.1 ?_).trans e, n, ne, nf, d⟩
      intro q
      rw [q, hoc] at e
      have q' : oc = p.2 := Option.some.inj e
      exact d w' (by rw [<- q']; exact hocd)
theorem jW {M : Model} {A : Around} {E : Value -> Shared -> Prop} {i : Nat} {x : Str} {v : V} {u : Value} {Q : Unit -> Shared -> Prop} (I : Inv X pins σ H s) (hN : X.N.Nodup) (hi : X.N[i]? = some x) (hx : Loc X.env.scope x) (r : RelV v u)
    (h : ∀ s', Inv X pins (σ.set i (some v)) H s' -> Q () s') (hf : X.fn x = true \/ X.env.scope.names.lookup x = some .local := by first | exact .inl rfl | exact .inr rfl | assumption) : wpAny M A (storeName X.env x u) Q E s :=
  fY I hN hi hx r (fun s' I' _ => h s' I') hf
theorem Inv.call' {s' : Shared} {ch : List Addr} (I : Inv X pins σ H s) (ho : s'.os = s.os) (u : Un (frs X.stack) ch H H' s.heap s'.heap) (hok : HOk X.prog X.w H' s'.heap) (hg : AllBare s'.gens)
    (hch : ∀ b ∈ ch, (b ∈ X.ex \/ X.s₀.heap.objs.size <= b) /\ b ≠ X.env.locals /\ (∀ x c, X.env.cells.lookup x = some c -> c ≠ b) /\ ∀ p ∈ X.pn ++ pins, p.1 ≠ b) : Inv X pins σ H' s' := by
  obtain ⟨h', g', d', t', o'⟩ := s'
  have e : o' = s.os := ho
  subst e
  exact I.call (g' := g') (t' := t') (d' := d') u hok hg hch
end
abbrev XK := Value -> Option Addr -> Hp -> Prop
abbrev St := List (Option V)
abbrev VK := V -> Hp -> Prop
abbrev TE := St -> Hp -> VK -> Prop
abbrev TT := St -> Hp -> (Bool -> Hp -> Prop) -> Prop
abbrev TA := St -> Hp -> (List V -> Hp -> Prop) -> Prop
structure Ends where
  nx : St -> Hp -> Prop
  rt : VK
  bk : St -> Hp -> Prop := fun _ _ => False
  ct : St -> Hp -> Prop := fun _ _ => False
abbrev TS := Ends -> St -> Hp -> Prop
def EP (X : Cx) (pins : List (Addr × Obj)) (σ : St) (Q : VK) (u : Value) (s' : Shared) : Prop := ∃ v H', Inv X pins σ H' s' /\ RelV v u /\ Q v H'
def TP (X : Cx) (pins : List (Addr × Obj)) (σ : St) (Q : Bool -> Hp -> Prop) (b : Bool) (s' : Shared) : Prop := ∃ H', Inv X pins σ H' s' /\ Q b H'
def AP (X : Cx) (pins : List (Addr × Obj)) (σ : St) (Q : List V -> Hp -> Prop) (us : List Value) (s' : Shared) : Prop := ∃ vs H', Inv X pins σ H' s' /\ Vals vs us /\ Q vs H'
def SP (X : Cx) (pins : List (Addr × Obj)) (D : Ends) (f : Flow) (s' : Shared) : Prop :=
  match f with
  | .next => ∃ σ' H', Inv X pins σ' H' s' /\ D.nx σ' H'
  | .brk => ∃ σ' H', Inv X pins σ' H' s' /\ D.bk σ' H'
  | .cont => ∃ σ' H', Inv X pins σ' H' s' /\ D.ct σ' H'
  | .ret u => ∃ v σ' H', Inv X pins σ' H' s' /\ RelV v u /\ D.rt v H'
def PE (X : Cx) (e : Expr) (t : TE) : Prop :=
  ∀ (pins : List (Addr × Obj)) (s : Shared) (σ : St) (H : Hp) (Q : VK), Inv X pins σ H s -> t σ H Q -> wpAny (model X.prog X.w) X.A (eval e X.env) (EP X pins σ Q) X.xe s
def PT (X : Cx) (e : Expr) (t : TT) : Prop :=
  ∀ (pins : List (Addr × Obj)) (s : Shared) (σ : St) (H : Hp) (Q : Bool -> Hp -> Prop), Inv X pins σ H s -> t σ H Q -> wpAny (model X.prog X.w) X.A (isTrue e X.env (eval e X.env)) (TP X pins σ Q) X.xe s
def PW (X : Cx) (e : Expr) (t : TT) : Prop :=
  ∀ (whole : Sem Value) (pins : List (Addr × Obj)) (s : Shared) (σ : St) (H : Hp) (Q : Bool -> Hp -> Prop), Inv X pins σ H s -> t σ H Q -> wpAny (model X.prog X.w) X.A (isTrue e X.env whole) (TP X pins σ Q) X.xe s
theorem PW.pt {X : Cx} {e : Expr} {t : TT} (h : PW X e t) : PT X e t := h _
def PA (X : Cx) (es : List Expr) (t : TA) : Prop :=
  ∀ (pos : Pos) (pins : List (Addr × Obj)) (s : Shared) (σ : St) (H : Hp) (Q : List V -> Hp -> Prop), Inv X pins σ H s -> t σ H Q -> wpAny (model X.prog X.w) X.A (spliced (backTo pos (starEach es X.env))) (AP X pins σ Q) X.xe s
def PS (X : Cx) (st : Stmt) (t : TS) : Prop :=
  ∀ (pins : List (Addr × Obj)) (s : Shared) (σ : St) (H : Hp) (D : Ends), Inv X pins σ H s -> t D σ H -> wpAny (model X.prog X.w) X.A (exec st X.env) (SP X pins D) X.xe s
def PSs (X : Cx) (st : List Stmt) (t : TS) : Prop :=
  ∀ (pins : List (Addr × Obj)) (s : Shared) (σ : St) (H : Hp) (D : Ends), Inv X pins σ H s -> t D σ H -> wpAny (model X.prog X.w) X.A (execs st X.env) (SP X pins D) X.xe s
theorem thn {α : Type} {t : Sem α} {Q Q' : α -> Shared -> Prop} {M : Model} {A : Around} {E : Value -> Shared -> Prop} {s : Shared} (h : wpAny M A t Q E s) (hQ : ∀ a s, Q a s -> Q' a s) : wpAny M A t Q' E s := wpAny_mono h hQ fun _ _ x => x
end L2
namespace L2
open PySem PySem.Spec PyProof.Rows
section
variable {X : Cx}
theorem bin {a b : Expr} {ta tb : TE} (ha : PE X a ta) (hb : PE X b tb) {pins : List (Addr × Obj)} {s : Shared} {σ : St} {H : Hp} {R : V -> V -> Hp -> Prop} (I : Inv X pins σ H s) (h : ta σ H fun x H1 => tb σ H1 fun y H2 => R x y H2)
    {α : Type} {Q : α -> Shared -> Prop} {f : Value -> Value -> Sem α}
    (hf : ∀ v u s2 x y H2, Inv X pins σ H2 s2 -> RelV x v -> RelV y u -> R x y H2 -> wpAny (model X.prog X.w) X.A (f v u) Q X.xe s2) :
    wpAny (model X.prog X.w) X.A (eval a X.env) (fun v s₁ => wpAny (model X.prog X.w) X.A (eval b X.env) (fun u s₂ => wpAny (model X.prog X.w) X.A (f v u) Q X.xe s₂) X.xe s₁) X.xe s := by
  refine thn (ha pins s σ H _ I h) fun v s1 hh => ?_
  obtain ⟨x, H1, I1, r1, q1⟩ := hh
  refine thn (hb pins s1 σ H1 _ I1 q1) fun u s2 hh => ?_
  obtain ⟨y, H2, I2, r2, q2⟩ := hh
  exact hf v u s2 x y H2 I2 r1 r2 q2
def tVar (i : Nat) : TE := fun σ H Q => ∃ v, σ[i]? = some (some v) /\ Q v H
def tC (v : V) : TE := fun _ H Q => Q v H
theorem oU {i : Nat} {x : Str} {pos : Pos} (hN : X.N[i]? = some x) (hv : Vis X.env.scope x) (hd : (x == ("__debug__" : Str)) = false := by decide) (hcd : (x == ("__classdict__" : Str)) = false := by decide) : PE X (.Name x pos) (tVar i) := by
  intro pins s σ H Q I h
  obtain ⟨v, e, h⟩ := h
  obtain ⟨m, hn, hl⟩ := I.loc
  obtain ⟨u, r, l⟩ := hl i x v hN e hv
  have fin : EP X pins σ Q u s := ⟨v, H, I, r, h⟩
  rcases l with ⟨hk, hm⟩ | ⟨hk, c, hc, hcell⟩
  . exact wpAny_Name (wpAny_loadName_local I.ok.kind hk hn hm fin) hd
  . rcases hk with hk | hk
    . exact wpAny_Name (wpAny_loadName_cell I.ok.kind hk hc hcell fin) hd
    . exact wpAny_Name (wpAny_loadName_free I.ok.kind hk hc hcell fin hcd) hd
theorem iQ {i j pos} : PE X (.Constant (.int i) j pos) (tC (.int i)) := fun _ _ _ H _ I h => wpAny_Constant_int ⟨.int i, H, I.tok _, ⟨_, rfl⟩, h⟩
theorem pK {b j pos} : PE X (.Constant (.bool b) j pos) (tC (.bl b)) := fun _ _ _ H _ I h => Constant_bool ⟨.bl b, H, I, rfl, h⟩
theorem oQ {x j pos} : PE X (.Constant (.str x) j pos) (tC (.str x)) := fun _ _ _ H _ I h => Calls.Constant_str ⟨.str x, H, I.tok _, ⟨_, rfl⟩, h⟩
def Gl (X : Cx) (x : Str) : Prop := X.env.kindOf x = some .globalImplicit
theorem bW {E : Value -> Shared -> Prop} {pins : List (Addr × Obj)} {s : Shared} {σ : St} {H : Hp} {x : Str} {u : Value} {pos : Pos} {Q : Value -> Shared -> Prop} (I : Inv X pins σ H s) (hg : Gl X x) (hm : X.mg x = some u) (h : Q u s)
    (hd : (x == ("__debug__" : Str)) = false := by decide) : wpAny (model X.prog X.w) X.A (eval (.Name x pos) X.env) Q E s :=
  Calls.Name_function_global I.ok.kind hg (Calls.loadGlobal_global (by rw [I.ok.glob]; exact I.mod.glob.keeps I.bk) hm h) hd
theorem vW {E : Value -> Shared -> Prop} {pins : List (Addr × Obj)} {s : Shared} {σ : St} {H : Hp} {x : Str} {u : Value} {pos : Pos} {Q : Value -> Shared -> Prop} (I : Inv X pins σ H s) (hg : Gl X x) (hm : X.mg x = none) (hv : bootBuiltins x = some u) (h : Q u s)
    (hn : x ≠ "__name__" := by decide) (hd : (x == ("__debug__" : Str)) = false := by decide) : wpAny (model X.prog X.w) X.A (eval (.Name x pos) X.env) Q E s := by
  obtain ⟨mb, h1, h2⟩ := I.mod.blt
  exact Calls.Name_function_global I.ok.kind hg (Calls.loadGlobal_builtin (by rw [I.ok.glob]; exact I.mod.glob.keeps I.bk) hm (by rw [I.ok.blt]; exact h1.keeps I.bk) ((h2 x hn).trans hv) h) hd
theorem tX {x : Str} {v : V} {u : Value} {pos : Pos} (hg : Gl X x) (hm : X.mg x = some u) (r : RelV v u) (hd : (x == ("__debug__" : Str)) = false := by decide) : PE X (.Name x pos) (tC v) :=
  fun _ _ _ H _ I h => bW I hg hm ⟨v, H, I, r, h⟩ hd
theorem mO {x : Str} {v : V} {u : Value} {pos : Pos} (hg : Gl X x) (hm : X.mg x = none) (hv : bootBuiltins x = some u) (r : RelV v u) (hn : x ≠ "__name__" := by decide) (hd : (x == ("__debug__" : Str)) = false := by decide) : PE X (.Name x pos) (tC v) :=
  fun _ _ _ H _ I h => vW I hg hm hv ⟨v, H, I, r, h⟩ hn hd
variable {a b : Expr} {ta tb : TE} {pos : Pos}
def PC (X : Cx) (op : CmpOp) (a b : Expr) (t : TE) : Prop :=
  ∀ (pins : List (Addr × Obj)) (s : Shared) (σ : St) (H : Hp) (Q : VK), Inv X pins σ H s -> t σ H Q ->
    wpAny (model X.prog X.w) X.A (eval a X.env) (fun v s₁ => wpAny (model X.prog X.w) X.A (eval b X.env) (fun u s₂ => wpAny (model X.prog X.w) X.A (compareOp op v u) (EP X pins σ Q) X.xe s₂) X.xe s₁) X.xe s
theorem nobehind (b : Expr) {op : CmpOp} (h : op ≠ .In) (h2 : op ≠ .NotIn) : behindInMarks op b = false := by
  have e1 : (op == CmpOp.In) = false := by cases op <;> first | rfl | exact absurd rfl h
  have e2 : (op == CmpOp.NotIn) = false := by cases op <;> first | rfl | exact absurd rfl h2
  cases b <;> simp [behindInMarks, e1, e2]
def tB (t : TE) : TT := fun σ H Q => t σ H fun x H1 => ∃ c, x = .bl c /\ Q c H1
theorem pt_cmp {op : CmpOp} {t : TE} (h : PC X op a b t) (h1 : behindInMarks op b = false := by first | exact nobehind _ (by decide) (by decide) | rfl) : PT X (.Compare a [op] [b] pos) (tB t) := by
  intro pins s σ H Q I hw
  refine wpAny_isTrue_Compare1 (thn (h pins s σ H _ I hw) fun v s1 h1 => thn h1 fun u s2 h2 => thn h2 fun c s3 hh => ?_) h1
  obtain ⟨x, H1, I1, r1, q1⟩ := hh
  obtain ⟨d, rfl, q⟩ := q1
  cases r1
  exact wpAny_truthy_bool ⟨H1, I1, q⟩
theorem pU {e : Expr} {t : TE} (h : PE X e t) (he : ∀ whole, isTrue e X.env whole = (do let v <- whole; standAt e.pos; holding [v] (truthy v)) := by intro _; rfl) : PT X e (tB t) := by
  intro pins s σ H Q I hw
  refine isTrue_plain (thn (h pins s σ H _ I hw) fun v s1 hh => ?_) (he _)
  obtain ⟨x, H1, I1, r1, q1⟩ := hh
  obtain ⟨d, rfl, q⟩ := q1
  cases r1
  exact wpAny_truthy_bool ⟨H1, I1, q⟩
variable {tA tB' : TT} {rest : List Expr}
def tAnd (t u : TT) : TT := fun σ H Q => t σ H fun c H1 => if c = true then u σ H1 Q else Q false H1
def tOr (t u : TT) : TT := fun σ H Q => t σ H fun c H1 => if c = true then Q true H1 else u σ H1 Q
def tNot (t : TT) : TT := fun σ H Q => t σ H fun c H1 => Q (!c) H1
theorem fV (ha : PT X a tA) : PW X (.BoolOp .And [a] pos) tA := by
  intro wh pins s σ H Q I h
  refine isTrue_and (thn (ha pins s σ H Q I h) fun c s1 e => ?_)
  cases c with
  | true => exact isTrue_and_nil e
  | false => exact e
theorem pw_or1 (ha : PT X a tA) : PW X (.BoolOp .Or [a] pos) tA := by
  intro wh pins s σ H Q I h
  refine isTrue_or (thn (ha pins s σ H Q I h) fun c s1 e => ?_)
  cases c with
  | false => exact isTrue_or_nil e
  | true => exact e
theorem pV (ha : PT X a tA) (hb : PW X (.BoolOp .And (b :: rest) pos) tB') : PW X (.BoolOp .And (a :: b :: rest) pos) (tAnd tA tB') := by
  intro wh pins s σ H Q I h
  refine isTrue_and (thn (ha pins s σ H _ I h) fun c s1 hh => ?_)
  obtain ⟨H1, I1, q1⟩ := hh
  cases c with
  | true => exact hb wh pins s1 σ H1 Q I1 q1
  | false => exact ⟨H1, I1, q1⟩
theorem pw_or (ha : PT X a tA) (hb : PW X (.BoolOp .Or (b :: rest) pos) tB') : PW X (.BoolOp .Or (a :: b :: rest) pos) (tOr tA tB') := by
  intro wh pins s σ H Q I h
  refine isTrue_or (thn (ha pins s σ H _ I h) fun c s1 hh => ?_)
  obtain ⟨H1, I1, q1⟩ := hh
  cases c with
  | true => exact ⟨H1, I1, q1⟩
  | false => exact hb wh pins s1 σ H1 Q I1 q1
theorem qU (ha : PT X a tA) : PT X (.UnaryOp .Not a pos) (tNot tA) := by
  intro pins s σ H Q I h
  exact isTrue_not (ha pins s σ H (fun c H1 => Q (!c) H1) I h)
def tAndV (ta tb : TE) : TE := fun σ H Q => ta σ H fun x H1 => ∃ c, x = .bl c /\ if c = true then tb σ H1 Q else Q (.bl false) H1
def tNotV (ta : TE) : TE := fun σ H Q => ta σ H fun x H1 => ∃ c, x = .bl c /\ Q (.bl (!c)) H1
theorem pe_one {op} {t : TE} (h : PE X a t) : PE X (.BoolOp op [a] pos) t := fun pins s σ H Q I hw => BoolOp_one (h pins s σ H Q I hw)
theorem sY (ha : PE X a ta) (hb : PE X (.BoolOp .And (b :: rest) pos) tb) : PE X (.BoolOp .And (a :: b :: rest) pos) (tAndV ta tb) := by
  intro pins s σ H Q I h
  refine BoolOp_and (thn (ha pins s σ H _ I h) fun v s1 hh => ?_)
  obtain ⟨x, H1, I1, r1, q1⟩ := hh
  obtain ⟨c, rfl, q1⟩ := q1
  cases r1
  refine wpAny_truthy_bool ?_
  cases c with
  | true => exact hb pins s1 σ H1 Q I1 q1
  | false => exact ⟨.bl false, H1, I1, rfl, q1⟩
theorem sU (ha : PE X a ta) : PE X (.UnaryOp .Not a pos) (tNotV ta) := by
  intro pins s σ H Q I h
  refine UnaryOp_ (thn (ha pins s σ H _ I h) fun v s1 hh => ?_)
  obtain ⟨x, H1, I1, r1, q1⟩ := hh
  obtain ⟨c, rfl, q1⟩ := q1
  cases r1
  exact not_of (wpAny_truthy_bool ⟨.bl (!c), H1, I1, rfl, q1⟩)
end
end L2
namespace L2
open PySem PySem.Spec PyProof.Rows
def SqL (K : PySem.W.Frag) (H : Hp) (a : Addr) (xs : List V) : Prop :=
  Rd H a (.lst xs) \/
    ∃ (o : Obj) (its : Array Value) (n : Nat), K.lookup a = some o /\ o.cls = .type "list" /\ o.dict = none /\ o.data = .seq its n /\ its.size <= sizeLine /\ Vals xs its.toList
def SqT (K : PySem.W.Frag) (H : Hp) (a : Addr) (xs : List V) : Prop :=
  Rd H a (.tup xs) \/
    ∃ (o : Obj) (its : Array Value) (n : Nat), K.lookup a = some o /\ o.cls = .type "tuple" /\ o.data = .seq its n /\ its.size <= sizeLine /\ Vals xs its.toList
def absV : Value -> Option V
  | .none => some .non
  | .bool b => some (.bl b)
  | .int i _ => some (.int i)
  | .str x _ => some (.str x)
  | .bytes b _ => some (.byt b)
  | .float b _ => some (.flt b)
  | .ref a => some (.ref a)
  | .type n => some (.ty n)
  | _ => none
theorem RelV.abs {x : V} {u : Value} (r : RelV x u) : absV u = some x := by
  cases x with
  | non => cases r; rfl
  | bl _ => cases r; rfl
  | int _ => obtain ⟨t, rfl⟩ := r; rfl
  | str _ => obtain ⟨t, rfl⟩ := r; rfl
  | byt _ => obtain ⟨t, rfl⟩ := r; rfl
  | flt _ => obtain ⟨t, rfl⟩ := r; rfl
  | ref _ => cases r; rfl
  | ty _ => cases r; rfl
theorem RelV.inj {x y : V} {u : Value} (r : RelV x u) (q : RelV y u) : x = y := Option.some.inj (r.abs.symm.trans q.abs)
theorem Vals.inj : ∀ {xs ys : List V} {us : List Value}, Vals xs us -> Vals ys us -> xs = ys
  | _, _, _, .nil, .nil => rfl
  | _, _, _, .cons r t, .cons r' t' => by rw [r.inj r', Vals.inj t t']
section
variable {X : Cx} {pins : List (Addr × Obj)} {σ : St} {H : Hp} {s : Shared} {a : Addr} {xs ys : List V}
theorem SqL.of {K : PySem.W.Frag} (h : H a = some (.lst xs)) : SqL K H a xs := .inl (.inl h)
theorem SqT.of {K : PySem.W.Frag} (h : H a = some (.tup xs)) : SqT K H a xs := .inl (.inl h)
theorem Inv.list (I : Inv X pins σ H s) (h : SqL X.K H a xs) : ∃ its : List Value, Vals xs its /\ PlainL s.heap a its.toArray /\ xs.length <= sizeLine := by
  rcases h with h | ⟨o, its, n, hk, hc, hd, hs, hz, r⟩
  . obtain ⟨z, its, n, r, e⟩ := h.ok I.hok
    exact ⟨its, r, ⟨_, n, e, rfl, rfl, rfl⟩, z⟩
  . refine ⟨its.toList, r, ⟨o, n, I.kIn a o hk, hc, hd, by simpa using hs⟩, ?_⟩
    have e := r.length
    simp only [Array.length_toList] at e
    omega
theorem Inv.tuple (I : Inv X pins σ H s) (h : SqT X.K H a xs) : ∃ its : List Value, Vals xs its /\ IsTup s.heap a its.toArray /\ xs.length <= sizeLine := by
  rcases h with h | ⟨o, its, n, hk, hc, hs, hz, r⟩
  . obtain ⟨z, its, r, p⟩ := h.ok I.hok
    exact ⟨its, r, p, z⟩
  . refine ⟨its.toList, r, ⟨o, I.kIn a o hk, hc, n, by simpa using hs⟩, ?_⟩
    have e := r.length
    simp only [Array.length_toList] at e
    omega
theorem Inv.list_inj (I : Inv X pins σ H s) (h : SqL X.K H a xs) (h' : SqL X.K H a ys) : xs = ys := by
  obtain ⟨its, r, ⟨o, n, e, _, _, d⟩, _⟩ := I.list h
  obtain ⟨its', r', ⟨o', n', e', _, _, d'⟩, _⟩ := I.list h'
  rw [e] at e'; cases e'
  rw [d] at d'
  injection d' with d1 _
  have : its = its' := by simpa using congrArg Array.toList d1
  subst this
  exact r.inj r'
theorem Inv.tuple_inj (I : Inv X pins σ H s) (h : SqT X.K H a xs) (h' : SqT X.K H a ys) : xs = ys := by
  obtain ⟨its, r, ⟨o, e, _, n, d⟩, _⟩ := I.tuple h
  obtain ⟨its', r', ⟨o', e', _, n', d'⟩, _⟩ := I.tuple h'
  rw [e] at e'; cases e'
  rw [d] at d'
  injection d' with d1 _
  have : its = its' := by simpa using congrArg Array.toList d1
  subst this
  exact r.inj r'
end
abbrev Cx.wish (X : Cx) (E : Value -> Shared -> Prop) : Cx := { X with xe := E }
abbrev Cx.nox (X : Cx) : Cx := X.wish fun _ _ => False
theorem Cx.Ok.wish {X : Cx} (ok : X.Ok) (E : Value -> Shared -> Prop) : (X.wish E).Ok :=
  ⟨ok.mod, ok.kind, ok.glob, ok.blt, ok.above, ok.inj, ok.has, ok.cab, ok.hd, ok.frames, ok.stk, ok.exf, ok.bs, ok.bsz, ok.noex, ok.exfs, ok.funs, ok.frf⟩
theorem Cx.Ok.unwish {X : Cx} {E : Value -> Shared -> Prop} (ok : (X.wish E).Ok) : X.Ok :=
  ⟨ok.mod, ok.kind, ok.glob, ok.blt, ok.above, ok.inj, ok.has, ok.cab, ok.hd, ok.frames, ok.stk, ok.exf, ok.bs, ok.bsz, ok.noex, ok.exfs, ok.funs, ok.frf⟩
section
variable {X : Cx} {pins : List (Addr × Obj)} {σ : St} {H : Hp} {s : Shared} {E : Value -> Shared -> Prop}
theorem Inv.wish (I : Inv X pins σ H s) (E : Value -> Shared -> Prop) : Inv (X.wish E) pins σ H s := ⟨I.ok.wish E, I.os, I.bare, I.base, I.loc, I.cell, I.free, I.freeC, I.pin, I.hok, I.len⟩
theorem Inv.unwish (I : Inv (X.wish E) pins σ H s) : Inv X pins σ H s := ⟨I.ok.unwish, I.os, I.bare, I.base, I.loc, I.cell, I.free, I.freeC, I.pin, I.hok, I.len⟩
theorem SP.unwish {D : Ends} {f : Flow} {s' : Shared} (h : SP (X.wish E) pins D f s') : SP X pins D f s' := by
  cases f with
  | next => obtain ⟨σ', H', I, q⟩ := h; exact ⟨σ', H', I.unwish, q⟩
  | brk => obtain ⟨σ', H', I, q⟩ := h; exact ⟨σ', H', I.unwish, q⟩
  | cont => obtain ⟨σ', H', I, q⟩ := h; exact ⟨σ', H', I.unwish, q⟩
  | ret u => obtain ⟨v, σ', H', I, r, q⟩ := h; exact ⟨v, σ', H', I.unwish, r, q⟩
theorem PE.nox {e : Expr} {t : TE} (h : PE X.nox e t) : PE X e t := fun pins s σ H Q I hw =>
  wpAny_mono (h pins s σ H Q (I.wish _) hw) (fun _ _ ⟨v, H', I', r, q⟩ => ⟨v, H', I'.unwish, r, q⟩) fun _ _ z => False.elim z
theorem PT.nox {e : Expr} {t : TT} (h : PT X.nox e t) : PT X e t := fun pins s σ H Q I hw =>
  wpAny_mono (h pins s σ H Q (I.wish _) hw) (fun _ _ ⟨H', I', q⟩ => ⟨H', I'.unwish, q⟩) fun _ _ z => False.elim z
theorem PSs.nox {st : List Stmt} {t : TS} (h : PSs X.nox st t) : PSs X st t := fun pins s σ H D I hw =>
  wpAny_mono (h pins s σ H D (I.wish _) hw) (fun _ _ q => q.unwish) fun _ _ z => False.elim z
end
section
variable {X : Cx} {st : Stmt} {rest : List Stmt} {t u : TS} {e : Expr} {te : TE} {pos : Pos}
def tNext : TS := fun D σ H => D.nx σ H
def tSeq (t u : TS) : TS := fun D σ H => t { D with nx := u D } σ H
theorem fZ : PSs X [] tNext := fun _ _ σ H _ I h => wpAny_execs_nil ⟨σ, H, I, h⟩
theorem dQ (h1 : PS X st t) (h2 : PSs X rest u) : PSs X (st :: rest) (tSeq t u) := by
  intro pins s σ H D I h
  refine wpAny_execs_cons (thn (h1 pins s σ H { D with nx := u D } I h) fun f s1 q => ?_)
  cases f with
  | next =>
    obtain ⟨σ', H', I', q⟩ := q
    exact h2 pins s1 σ' H' D I' q
  | ret v => exact q
  | brk => exact q
  | cont => exact q
theorem mQ (h1 : PS X st t) : PSs X [st] t := by
  intro pins s σ H D I h
  refine wpAny_execs_cons (thn (h1 pins s σ H D I h) fun f s1 q => ?_)
  cases f with
  | next => exact wpAny_execs_nil q
  | ret v => exact q
  | brk => exact q
  | cont => exact q
theorem Inv.quiet {pins : List (Addr × Obj)} {σ : St} {H : Hp} {s : Shared} (I : Inv X pins σ H s) : interactive X.env = false := by simp [interactive, I.ok.kind]
def tDrop (te : TE) : TS := fun D σ H => te σ H fun _ H1 => D.nx σ H1
theorem xZ (he : PE X e te) (hs : swapsWith e none pos.line X.env = pure false := by rfl) : PS X (.Expr e pos) (tDrop te) := by
  intro pins s σ H D I h
  exact wpAny_Expr_any (thn (he pins s σ H _ I h) fun v s1 ⟨x, H1, I1, r1, q1⟩ => ⟨σ, H1, I1, q1⟩) I.quiet hs
def tRet (te : TE) : TS := fun D σ H => te σ H D.rt
theorem tQ (he : PE X e te) : PS X (.Return (some e) pos) (tRet te) := by
  intro pins s σ H D I h
  exact wpAny_Return_some (thn (he pins s σ H _ I h) fun v s1 ⟨x, H1, I1, r1, q1⟩ => ⟨x, σ, H1, I1, r1, q1⟩)
def tIfS (c : TT) (t u : TS) : TS := fun D σ H => c σ H fun b H1 => if b = true then t D σ H1 else u D σ H1
theorem wZ {c : Expr} {a b : List Stmt} {tc : TT} (hc : PT X c tc) (ha : PSs X a t) (hb : PSs X b u) : PS X (.If c a b pos) (tIfS tc t u) := by
  intro pins s σ H D I h
  refine wpAny_If (thn (hc pins s σ H _ I h) fun d s1 hh => ?_)
  obtain ⟨H1, I1, q1⟩ := hh
  cases d with
  | true => exact ha pins s1 σ H1 D I1 q1
  | false => exact hb pins s1 σ H1 D I1 q1
def tNever : TS := fun _ _ _ => False
theorem ps_never : PS X st tNever := fun _ _ _ _ _ _ h => h.elim
end
abbrev TG := V -> St -> Hp -> (St -> Hp -> Prop) -> Prop
abbrev TGs := List V -> St -> Hp -> (St -> Hp -> Prop) -> Prop
def PG (X : Cx) (target : Expr) (t : TG) : Prop :=
  ∀ (pins : List (Addr × Obj)) (s : Shared) (σ : St) (H : Hp) (v : V) (u : Value) (Q : St -> Hp -> Prop), Inv X pins σ H s -> RelV v u -> t v σ H Q ->
    wpAny (model X.prog X.w) X.A (assign target X.env u) (fun _ s' => ∃ σ' H', Inv X pins σ' H' s' /\ Q σ' H') X.xe s
def PGs (X : Cx) (ts : List Expr) (t : TGs) : Prop :=
  ∀ (pins : List (Addr × Obj)) (s : Shared) (σ : St) (H : Hp) (vs : List V) (us : List Value) (Q : St -> Hp -> Prop), Inv X pins σ H s -> Vals vs us -> t vs σ H Q ->
    wpAny (model X.prog X.w) X.A (assignInOrder ((assignEach ts X.env).map (·.2)) us) (fun _ s' => ∃ σ' H', Inv X pins σ' H' s' /\ Q σ' H') X.xe s
abbrev TSet := V -> V -> V -> Hp -> (Hp -> Prop) -> Prop
def PSet (X : Cx) (t : TSet) : Prop :=
  ∀ (pins : List (Addr × Obj)) (s : Shared) (σ : St) (H : Hp) (o i v : V) (ov iv u : Value) (Q : Hp -> Prop), Inv X pins σ H s -> RelV o ov -> RelV i iv -> RelV v u -> t o i v H Q ->
    wpAny (model X.prog X.w) X.A (setItem ov iv u) (fun _ s' => ∃ H', Inv X pins σ H' s' /\ Q H') X.xe s
abbrev TIp := V -> V -> Hp -> VK -> Prop
def PIp (X : Cx) (op : Operator) (t : TIp) : Prop :=
  ∀ (pins : List (Addr × Obj)) (s : Shared) (σ : St) (H : Hp) (x y : V) (v u : Value) (Q : VK), Inv X pins σ H s -> RelV x v -> RelV y u -> t x y H Q ->
    wpAny (model X.prog X.w) X.A (inplaceOp op v u) (EP X pins σ Q) X.xe s
section
variable {X : Cx} {pos : Pos}
def gName (i : Nat) : TG := fun v σ H Q => Q (σ.set i (some v)) H
theorem rQ {i : Nat} {x : Str} (hN : X.N.Nodup) (hi : X.N[i]? = some x) (hx : Loc X.env.scope x) (hf : X.fn x = true \/ X.env.scope.names.lookup x = some .local := by first | exact .inl rfl | exact .inr rfl | assumption) : PG X (.Name x pos) (gName i) := by
  intro pins s σ H v u Q I r h
  exact wpAny_assign_Name (jW I hN hi hx r (fun s' I' => ⟨_, H, I', h⟩) hf)
def gNil : TGs := fun vs σ H Q => vs = [] /\ Q σ H
def gCons (t : TG) (u : TGs) : TGs := fun vs σ H Q => ∃ v r, vs = v :: r /\ t v σ H fun σ' H' => u r σ' H' Q
theorem lJ : PGs X [] gNil := by
  intro pins s σ H vs us Q I r h
  obtain ⟨e, h⟩ := h
  subst e
  cases r
  exact assignInOrder_nil ⟨σ, H, I, h⟩
theorem hZ {e : Expr} {es : List Expr} {t : TG} {u : TGs} (h1 : PG X e t) (h2 : PGs X es u)
    (hs : (assignEach (e :: es) X.env).map (·.2) = assign e X.env :: (assignEach es X.env).map (·.2) := by rfl) : PGs X (e :: es) (gCons t u) := by
  intro pins s σ H vs us Q I r h
  obtain ⟨v, vr, e1, h⟩ := h
  subst e1
  cases r with
  | cons r rr =>
    rw [hs]
    refine assignInOrder_cons (thn (h1 pins s σ H _ _ _ I r h) fun _ s1 hh => ?_)
    obtain ⟨σ1, H1, I1, q1⟩ := hh
    exact h2 pins s1 σ1 H1 _ _ Q I1 rr q1
def gTup (K : PySem.W.Frag) (n : Nat) (t : TGs) : TG := fun v σ H Q => ∃ a xs, v = .ref a /\ SqT K H a xs /\ xs.length = n /\ t xs σ H Q
theorem iW {es : List Expr} {k : Nat} {t : TGs} {n : Nat} (hc : X.calm = true) (h : PGs X es t)
    (hn : (assignEach es X.env).length = n := by rfl) (hst : (assignEach es X.env).findIdx? (·.1) = none := by rfl) : PG X (.Tuple es k pos) (gTup X.K n t) := by
  intro pins s σ H v u Q I r hw
  obtain ⟨a, xs, e1, hq, hl, hw⟩ := hw
  subst e1
  cases r
  obtain ⟨its, rv, ht, hz⟩ := I.tuple hq
  refine assign_Tuple_tuple (I.ok.hd hc) ht (by simp [hn, <- hl, rv.length]) hst fun h' hx => ?_
  have I1 : Inv X pins σ H { s with heap := h' } := I.kept (t' := s.toks) fun b o e => hx b o (Nat.ne_of_lt (Heap.lt_size e)) e
  exact h pins _ σ H xs _ Q I1 (by simpa using rv) hw
def gSub (to ti : TE) (t : TSet) : TG := fun v σ H Q => to σ H fun o H1 => ti σ H1 fun i H2 => t o i v H2 fun H3 => Q σ H3
theorem pg_sub {o i : Expr} {to ti : TE} {t : TSet} (ho : PE X o to) (hi : PE X i ti) (hs : PSet X t)
    (ha : ∀ v, assign (.Subscript o i pos) X.env v = (do
      let ov <- holding [v] (eval o X.env)
      let iv <- holding [v, ov] (eval i X.env)
      standAt pos
      holding [v, ov, iv] (setItem ov iv v)
      release [v, ov, iv] []) := by intro _; rfl) : PG X (.Subscript o i pos) (gSub to ti t) := by
  intro pins s σ H v u Q I r h
  rw [ha]
  refine wpAny_bind (wpAny_holding (thn (ho pins s σ H _ I h) fun ov s1 hh => ?_))
  obtain ⟨x, H1, I1, r1, q1⟩ := hh
  refine wpAny_bind (wpAny_holding (thn (hi pins s1 σ H1 _ I1 q1) fun iv s2 hh => ?_))
  obtain ⟨y, H2, I2, r2, q2⟩ := hh
  refine wpAny_bind (wpAny_standAt (wpAny_bind (wpAny_holding (thn (hs pins s2 σ H2 x y v ov iv u _ I2 r1 r2 r q2) fun _ s3 hh => ?_))))
  obtain ⟨H3, I3, q3⟩ := hh
  exact wpAny_release ⟨σ, H3, I3, q3⟩
def tAsg (te : TE) (g : TG) : TS := fun D σ H => te σ H fun x H1 => g x σ H1 D.nx
theorem tY {tg e : Expr} {te : TE} {g : TG} (he : PE X e te) (hg : PG X tg g) (hs : swapsWithSole [tg] e pos.line X.env = pure false := by rfl) (hw : swappedStores [tg] e X.env = pure none := by rfl)
    (h1 : (assignEach [tg] X.env).map (·.2) = [assign tg X.env] := by rfl) : PS X (.Assign [tg] e pos) (tAsg te g) := by
  intro pins s σ H D I h
  refine wpAny_Assign_stores (thn (he pins s σ H _ I h) fun v s1 hh => ?_) hs hw
  obtain ⟨x, H1, I1, r1, q1⟩ := hh
  rw [h1]
  exact thn (hg pins s1 σ H1 x v _ I1 r1 q1) fun _ s2 q => q
theorem lQ {i : Nat} {x : Str} {e : Expr} {te : TE} {pos' : Pos} (hN : X.N.Nodup) (hi : X.N[i]? = some x) (hx : Loc X.env.scope x) (he : PE X e te) (hs : swapsWith e (some (.Name x pos')) pos.line X.env = pure false := by rfl) (hf : X.fn x = true \/ X.env.scope.names.lookup x = some .local := by first | exact .inl rfl | exact .inr rfl | assumption) :
    PS X (.Assign [.Name x pos'] e pos) (tAsg te (gName i)) := by
  intro pins s σ H D I h
  refine wpAny_Assign_Name (thn (he pins s σ H _ I h) fun v s1 hh => ?_) hs
  obtain ⟨y, H1, I1, r1, q1⟩ := hh
  exact jW I1 hN hi hx r1 (fun s2 I2 => ⟨_, H1, I2, q1⟩) hf
def tAug (i : Nat) (te : TE) (ti : TIp) : TS := fun D σ H => ∃ x, σ[i]? = some (some x) /\ te σ H fun y H1 => ti x y H1 fun z H2 => D.nx (σ.set i (some z)) H2
theorem ps_aug {i : Nat} {x : Str} {e : Expr} {te : TE} {op : Operator} {ti : TIp} {pos' : Pos} (hN : X.N.Nodup) (hi : X.N[i]? = some x) (hx : Loc X.env.scope x) (he : PE X e te) (ho : PIp X op ti) (hf : X.fn x = true \/ X.env.scope.names.lookup x = some .local := by first | exact .inl rfl | exact .inr rfl | assumption) :
    PS X (.AugAssign (.Name x pos') op e pos) (tAug i te ti) := by
  intro pins s σ H D I h
  obtain ⟨v, e1, h⟩ := h
  obtain ⟨m, hn, hl⟩ := I.loc
  have vis : Vis X.env.scope x := by rcases hx with k | k; exact .inl k; exact .inr (.inl k)
  obtain ⟨u, r, l⟩ := hl i x v hi e1 vis
  refine wpAny_AugAssign_Name ?_
  have go : wpAny (model X.prog X.w) X.A (eval e X.env) (fun w s₂ => wpAny (model X.prog X.w) X.A (inplaceOp op u w) (fun r s₃ => wpAny (model X.prog X.w) X.A (storeName X.env x r) (fun _ => SP X pins D .next) X.xe s₃) X.xe s₂) X.xe s := by
    refine thn (he pins s σ H _ I h) fun w s1 hh => ?_
    obtain ⟨y, H1, I1, r1, q1⟩ := hh
    refine thn (ho pins s1 σ H1 v y u w _ I1 r r1 q1) fun z s2 hh => ?_
    obtain ⟨zv, H2, I2, r2, q2⟩ := hh
    exact jW I2 hN hi hx r2 (fun s3 I3 => ⟨_, H2, I3, q2⟩) hf
  rcases l with ⟨hk, hm⟩ | ⟨hk, c, hc, hcell⟩
  . exact wpAny_loadName_local I.ok.kind hk hn hm go
  . rcases hk with hk | hk
    . exact wpAny_loadName_cell I.ok.kind hk hc hcell go
    . rcases hx with k | k
      . have : X.env.scope.names.lookup x = some .free := hk
        rw [k] at this; cases this
      . have : X.env.scope.names.lookup x = some .free := hk
        rw [k] at this; cases this
def ipI (f : Int -> Int -> Int) : TIp := fun x y H Q => ∃ i j, x = .int i /\ y = .int j /\ Q (.int (f i j)) H
theorem ip_add : PIp X .Add (ipI fun i j => i + j) := by
  intro pins s σ H x y v u Q I r1 r2 h
  obtain ⟨i, j, e1, e2, q⟩ := h
  subst e1; subst e2
  obtain ⟨t, rfl⟩ := r1
  obtain ⟨t', rfl⟩ := r2
  exact iadd_int ⟨.int _, H, I.tok _, ⟨_, rfl⟩, q⟩
end
section
variable {X : Cx} {pos : Pos}
end
structure It where
  go : Nat -> Hp -> Prop
  yld : Nat -> Hp -> V -> Hp -> Prop
  stop : Nat -> Hp -> Prop
def FpOk (X : Cx) (pins : List (Addr × Obj)) (H : Hp) (b : Addr) : Prop :=
  H b = none /\ b ≠ X.env.locals /\ b ∉ X.fs /\ (b ∈ X.ex \/ X.s₀.heap.objs.size <= b) /\ (∀ x c, X.env.cells.lookup x = some c -> c ≠ b) /\ ∀ p ∈ X.pn ++ pins, p.1 ≠ b
theorem Inv.fpOk {X : Cx} {pins : List (Addr × Obj)} {σ : St} {H H' : Hp} {s : Shared} {b : Addr} (I : Inv X pins σ H s) (hb : s.heap.objs.size <= b) (hn : H' b = none) : FpOk X pins H' b := by
  refine ⟨hn, Nat.ne_of_gt (Nat.lt_of_lt_of_le I.lt hb), I.nofs hb, .inr (Nat.le_trans I.sz hb), fun x c e z => ?_, fun p hp z => ?_⟩
  . obtain ⟨v, q⟩ := I.cell x c e
    exact absurd (Nat.lt_of_lt_of_le q.lt (by rw [z]; exact hb)) (Nat.lt_irrefl _)
  . exact absurd (Nat.lt_of_lt_of_le (Heap.lt_size (I.pin p hp).1) (by rw [z]; exact hb)) (Nat.lt_irrefl _)
structure Turn (P : Program) (w : World) (K : PySem.W.Frag) (tg : Expr) (J : It) (fp : List Addr) (it : Addr) (tn : Nat -> Heap -> Prop) : Prop where
  mem : it ∈ fp
  obj : ∀ i h, tn i h -> ∀ b ∈ fp, ∃ o, h.get? b = some o /\ ∀ v, o.data ≠ .cell v
  keep : ∀ i h h', tn i h -> (∀ b ∈ fp, ∀ o, h.get? b = some o -> h'.get? b = some o) -> tn i h'
  item : ∀ (X : Cx), X.prog = P -> X.w = w -> X.K = K -> X.calm = true -> ∀ (i : Nat) (pins : List (Addr × Obj)) (s : Shared) (σ : St) (H : Hp) (E : Value -> Shared -> Prop), Inv X pins σ H s -> (∀ b ∈ fp, FpOk X pins H b) -> tn i s.heap -> J.go i H ->
    wpAny (model P w) X.A (pyNext (.ref it)) (fun r s1 => ∃ u, r = some u /\
      wpAny (model P w) X.A (letOwnedTupleGo tg (.ref it) u) (fun _ s2 => ∃ x H', Inv X pins σ H' s2 /\ RelV x u /\ J.yld i H x H' /\ tn (i + 1) s2.heap /\ ∀ b ∈ fp, H' b = none) E s1) E s
  done : ∀ (X : Cx), X.prog = P -> X.w = w -> X.K = K -> X.calm = true -> ∀ (i : Nat) (pins : List (Addr × Obj)) (s : Shared) (σ : St) (H : Hp) (E : Value -> Shared -> Prop), Inv X pins σ H s -> (∀ b ∈ fp, FpOk X pins H b) -> tn i s.heap -> J.stop i H ->
    wpAny (model P w) X.A (pyNext (.ref it)) (fun r s1 => r = none /\ Inv X pins σ H s1) E s
  self : ∀ (A : Around) (i : Nat) (s : Shared) (Q : Value -> Shared -> Prop) (E : Value -> Shared -> Prop), tn i s.heap -> Q (.ref it) s -> wpAny (model P w) A (pyIter (.ref it)) Q E s
abbrev TI := St -> Hp -> (It -> Hp -> Prop) -> Prop
def PIE (X : Cx) (pins : List (Addr × Obj)) (σ : St) (tg : Expr) (R : It -> Hp -> Prop) (itv : Value) (s2 : Shared) : Prop :=
  ∃ (it : Addr) (fp : List Addr) (tn : Nat -> Heap -> Prop) (J : It) (H' : Hp), itv = .ref it /\ Inv X pins σ H' s2 /\ Turn X.prog X.w X.K tg J fp it tn /\ tn 0 s2.heap /\ (∀ b ∈ fp, FpOk X pins H' b) /\ R J H'
def PI (X : Cx) (tg iter : Expr) (wi : TI) : Prop :=
  ∀ (pins : List (Addr × Obj)) (s : Shared) (σ : St) (H : Hp) (R : It -> Hp -> Prop), Inv X pins σ H s -> wi σ H R ->
    wpAny (model X.prog X.w) X.A (eval iter X.env) (fun v s1 => wpAny (model X.prog X.w) X.A (pyIter v) (PIE X pins σ tg R) X.xe s1) X.xe s
theorem nO {M : Model} {A : Around} {E : Value -> Shared -> Prop} {s : Shared} {tg : Expr} {it : Addr} {u : Value} {o : Obj} {n : String} {vs : Array Value} {Q : Unit -> Shared -> Prop} (ho : s.heap.get? it = some o) (hc : o.cls = .type n) (hd : o.data = .fields vs)
    (hn : ["enumerate", "zip", "dict_itemiterator", "dict_reverseitemiterator", "odict_iterator", "itertools.zip_longest", "itertools.pairwise"].contains n = false) (hQ : Q () s) : wpAny M A (letOwnedTupleGo tg (.ref it) u) Q E s := by
  unfold letOwnedTupleGo
  cases tg <;> first
    | exact wpAny_pure hQ
    | (cases u <;> first
        | exact wpAny_pure hQ
        | (refine wpAny_bind (wpAny_load ho ?_)
           rw [hc, hd]
           show wpAny M A (if (["enumerate", "zip", "dict_itemiterator", "dict_reverseitemiterator", "odict_iterator", "itertools.zip_longest", "itertools.pairwise"].contains n && vs[0]? == some (rawInt _)) = true then _ else _) Q E s
           rw [if_neg (by intro h; rw [hn, Bool.false_and] at h; cases h)]
           exact wpAny_pure hQ))
def Itl (K : PySem.W.Frag) (a : Addr) : It :=
  ⟨fun i H => ∃ xs x, SqL K H a xs /\ xs[i]? = some x, fun i H x H' => H' = H /\ ∀ xs, SqL K H a xs -> xs[i]? = some x, fun i H => ∃ xs, SqL K H a xs /\ xs.length <= i⟩
def Itt (K : PySem.W.Frag) (a : Addr) : It :=
  ⟨fun i H => ∃ xs x, SqT K H a xs /\ xs[i]? = some x, fun i H x H' => H' = H /\ ∀ xs, SqT K H a xs -> xs[i]? = some x, fun i H => ∃ xs, SqT K H a xs /\ xs.length <= i⟩
def Itr (lo : Int) (n : Nat) : It := ⟨fun i _ => i < n, fun i H x H' => H' = H /\ x = .int (lo + i), fun i _ => n <= i⟩
theorem turn_list {P : Program} {w : World} {K : PySem.W.Frag} {tg : Expr} (a it : Addr) : Turn P w K tg (Itl K a) [it] it (fun i h => h.IsListIter it a i) where
  mem := by simp
  obj := fun i h st b hb => by
    have e : b = it := by simpa using hb
    subst e
    obtain ⟨o, e, c, d⟩ := st
    exact ⟨o, e, fun v z => by rw [d] at z; cases z⟩
  keep := fun i h h' st k => st.at fun o e => k it (by simp) o e
  item := by
    intro X hP hw hK hc i pins s σ H E I hf st hg
    subst hP hw hK
    obtain ⟨xs, x, hq, hx⟩ := hg
    obtain ⟨its, rv, p, hz⟩ := I.list hq
    obtain ⟨u, hu, ru⟩ := rv.get hx
    obtain ⟨f0, f1, f2, f3, f4, f5⟩ := hf it (by simp)
    refine wpAny_pyNext_list_item st p.isList (x := u) (by simpa using hu) fun h' st' sb => ?_
    have I1 : Inv X pins σ H { s with heap := h' } := I.turned (t' := s.toks) (fun b o hb e => (sb.2 b hb).trans e) f0 f1 f3 f4 f5
    obtain ⟨o, e, c, d⟩ := id st'
    exact ⟨u, rfl, nO (s := { s with heap := h' }) e c d (by decide) ⟨x, H, I1, ru, ⟨rfl, fun ys hy => by rw [I.list_inj hy hq]; exact hx⟩, st', fun b hb => (hf b hb).1⟩⟩
  done := by
    intro X hP hw hK hc i pins s σ H E I hf st hg
    subst hP hw hK
    obtain ⟨xs, hq, hx⟩ := hg
    obtain ⟨its, rv, p, hz⟩ := I.list hq
    obtain ⟨f0, f1, f2, f3, f4, f5⟩ := hf it (by simp)
    have hl := rv.length
    exact wpAny_pyNext_list_end (I.ok.hd hc) st p.isList (by simp; omega) fun h' eb => ⟨rfl, I.turned (t' := s.toks) (fun b o hb e => eb b o hb e) f0 f1 f3 f4 f5⟩
  self := fun _ _ _ _ _ st h => wpAny_pyIter_listiter st h
theorem tU {P : Program} {w : World} {K : PySem.W.Frag} {tg : Expr} (a it : Addr) : Turn P w K tg (Itt K a) [it] it (fun i h => h.IsTupleIter it a i) where
  mem := by simp
  obj := fun i h st b hb => by
    have e : b = it := by simpa using hb
    subst e
    obtain ⟨o, e, c, d⟩ := st
    exact ⟨o, e, fun v z => by rw [d] at z; cases z⟩
  keep := fun i h h' st k => st.at fun o e => k it (by simp) o e
  item := by
    intro X hP hw hK hc i pins s σ H E I hf st hg
    subst hP hw hK
    obtain ⟨xs, x, hq, hx⟩ := hg
    obtain ⟨its, rv, p, hz⟩ := I.tuple hq
    obtain ⟨u, hu, ru⟩ := rv.get hx
    obtain ⟨f0, f1, f2, f3, f4, f5⟩ := hf it (by simp)
    refine wpAny_pyNext_tuple_item st (show s.heap.IsTuple a its.toArray from p) (x := u) (by simpa using hu) fun h' st' sb => ?_
    have I1 : Inv X pins σ H { s with heap := h' } := I.turned (t' := s.toks) (fun b o hb e => (sb.2 b hb).trans e) f0 f1 f3 f4 f5
    obtain ⟨o, e, c, d⟩ := id st'
    exact ⟨u, rfl, nO (s := { s with heap := h' }) e c d (by decide) ⟨x, H, I1, ru, ⟨rfl, fun ys hy => by rw [I.tuple_inj hy hq]; exact hx⟩, st', fun b hb => (hf b hb).1⟩⟩
  done := by
    intro X hP hw hK hc i pins s σ H E I hf st hg
    subst hP hw hK
    obtain ⟨xs, hq, hx⟩ := hg
    obtain ⟨its, rv, p, hz⟩ := I.tuple hq
    obtain ⟨f0, f1, f2, f3, f4, f5⟩ := hf it (by simp)
    have hl := rv.length
    exact wpAny_pyNext_tuple_end (I.ok.hd hc) st (show s.heap.IsTuple a its.toArray from p) (by simp; omega) fun h' eb => ⟨rfl, I.turned (t' := s.toks) (fun b o hb e => eb b o hb e) f0 f1 f3 f4 f5⟩
  self := fun _ _ _ _ _ st h => wpAny_pyIter_tupleiter st h
theorem uU {P : Program} {w : World} {K : PySem.W.Frag} {tg : Expr} (it : Addr) (lo : Int) (n : Nat) : Turn P w K tg (Itr lo n) [it] it (fun i h => IsRangeIter h it (lo + (i : Nat) * 1) ((n : Int) - (i : Nat)) 1) where
  mem := by simp
  obj := fun i h st b hb => by
    have e : b = it := by simpa using hb
    subst e
    exact ⟨_, st, fun v z => by
      have z' : Data.fields _ = Data.cell v := z
      cases z'⟩
  keep := fun i h h' st k => k it (by simp) _ st
  item := by
    intro X hP hw hK hc i pins s σ H E I hf st hg
    subst hP hw hK
    obtain ⟨f0, f1, f2, f3, f4, f5⟩ := hf it (by simp)
    have W := Walks.range (prog := X.prog) (w := X.w) (I.ok.hd hc) it lo 1 n
    refine W.item i s _ _ hg st fun v h' tk hv st' kk => ?_
    obtain ⟨t, rfl⟩ := hv
    have I1 : Inv X pins σ H { s with heap := h', toks := tk } := I.turned (fun b o hb e => kk b o (by simpa using hb) e) f0 f1 f3 f4 f5
    refine ⟨_, rfl, nO (s := { s with heap := h', toks := tk }) (n := "range_iterator") st' rfl rfl (by decide) ⟨.int (lo + i), H, I1, ⟨t, ?_⟩, ⟨rfl, rfl⟩, st', fun b hb => (hf b hb).1⟩⟩
    rw [Int.mul_one]
  done := by
    intro X hP hw hK hc i pins s σ H E I hf st hg
    subst hP hw hK
    obtain ⟨f0, f1, f2, f3, f4, f5⟩ := hf it (by simp)
    exact wpAny_pyNext_range_end (I.ok.hd hc) st (by have : n <= i := hg; omega) fun h' eb => ⟨rfl, I.turned (t' := s.toks) (fun b o hb e => eb b o hb e) f0 f1 f3 f4 f5⟩
  self := fun _ _ _ _ _ st h => wpAny_pyIter_rangeiter st h
end L2
namespace L2
open PySem PySem.Spec PyProof.Rows
section
variable {X : Cx} {tg : Expr}
def iList (K : PySem.W.Frag) (tl : TE) : TI := fun σ H R => tl σ H fun x H1 => ∃ a, x = .ref a /\ (∃ xs, SqL K H1 a xs) /\ R (Itl K a) H1
def iTup (K : PySem.W.Frag) (tl : TE) : TI := fun σ H R => tl σ H fun x H1 => ∃ a, x = .ref a /\ (∃ xs, SqT K H1 a xs) /\ R (Itt K a) H1
theorem uX {l : Expr} {tl : TE} (hl : PE X l tl) : PI X tg l (iList X.K tl) := by
  intro pins s σ H R I h
  refine thn (hl pins s σ H _ I h) fun v s1 hh => ?_
  obtain ⟨x, H1, I1, r1, q1⟩ := hh
  obtain ⟨a, e, ⟨xs, hq⟩, q⟩ := q1
  subst e
  cases r1
  obtain ⟨its, rv, p, hz⟩ := I1.list hq
  refine wpAny_pyIter_list p.isList ?_
  refine ⟨s1.heap.objs.size, [s1.heap.objs.size], _, _, H1, rfl, I1.kept (t' := s1.toks) fun b o e => Heap.get?_push_of_some _ e, turn_list a _, ⟨_, Heap.get?_push_size _ rfl, rfl, rfl⟩, fun b hb => ?_, q⟩
  have e : b = s1.heap.objs.size := by simpa using hb
  subst e
  exact I1.fpOk (Nat.le_refl _) (I1.hok.fresh (Nat.le_refl _))
theorem pi_tup {l : Expr} {tl : TE} (hl : PE X l tl) : PI X tg l (iTup X.K tl) := by
  intro pins s σ H R I h
  refine thn (hl pins s σ H _ I h) fun v s1 hh => ?_
  obtain ⟨x, H1, I1, r1, q1⟩ := hh
  obtain ⟨a, e, ⟨xs, hq⟩, q⟩ := q1
  subst e
  cases r1
  obtain ⟨its, rv, p, hz⟩ := I1.tuple hq
  refine wpAny_pyIter_tuple (show s1.heap.IsTuple a its.toArray from p) ?_
  refine ⟨s1.heap.objs.size, [s1.heap.objs.size], _, _, H1, rfl, I1.kept (t' := s1.toks) fun b o e => Heap.get?_push_of_some _ e, tU a _, ⟨_, Heap.get?_push_size _ rfl, rfl, rfl⟩, fun b hb => ?_, q⟩
  have e : b = s1.heap.objs.size := by simpa using hb
  subst e
  exact I1.fpOk (Nat.le_refl _) (I1.hok.fresh (Nat.le_refl _))
theorem qK {pins : List (Addr × Obj)} {σ : St} {H : Hp} {s : Shared} {R : It -> Hp -> Prop} {E : Value -> Shared -> Prop} {lo hi : Int} {t u v : Tok} {tk : Nat} (I : Inv X pins σ H s) (h1 : -(2 ^ 62) <= lo) (h2 : lo < 2 ^ 62) (h3 : -(2 ^ 62) <= hi) (h4 : hi < 2 ^ 62)
    (q : R (Itr lo (hi - lo).toNat) H) : wpAny (model X.prog X.w) X.A (pyIter (.ref s.heap.objs.size)) (PIE X pins σ tg R) E { s with heap := s.heap.push { cls := .type "range", data := .fields #[.int lo t, .int hi u, .int 1 v] }, toks := tk } := by
  refine wpAny_pyIter_range (IsRange.new ..) (small_one h1 h2 h3 h4) ?_
  have I1 : Inv X pins σ H { s with heap := s.heap.push { cls := .type "range", data := .fields #[.int lo t, .int hi u, .int 1 v] }, toks := tk } := I.kept fun b o e => Heap.get?_push_of_some _ e
  refine ⟨(s.heap.push { cls := .type "range", data := .fields #[.int lo t, .int hi u, .int 1 v] }).objs.size, [(s.heap.push { cls := .type "range", data := .fields #[.int lo t, .int hi u, .int 1 v] }).objs.size], _, _, H, rfl,
    I1.kept (t' := tk) fun b o e => Heap.get?_push_of_some _ e, uU _ lo (hi - lo).toNat, ?_, fun b hb => ?_, q⟩
  . have e1 : lo + ((0 : Nat) : Int) * 1 = lo := by simp
    have e2 : (((hi - lo).toNat : Nat) : Int) - ((0 : Nat) : Int) = Builtin.Range.rangeSize lo hi 1 := by rw [rangeSize_one]; split <;> omega
    show IsRangeIter _ _ (lo + ((0 : Nat) : Int) * 1) ((((hi - lo).toNat : Nat) : Int) - ((0 : Nat) : Int)) 1
    rw [e1, e2]
    exact Heap.get?_push_size _ rfl
  . have e : b = (s.heap.push { cls := .type "range", data := .fields #[.int lo t, .int hi u, .int 1 v] }).objs.size := by simpa using hb
    subst e
    exact I1.fpOk (Nat.le_refl _) (I1.hok.fresh (Nat.le_refl _))
def iRng1 (ta : TA) : TI := fun σ H R => ta σ H fun vs H1 => ∃ j : Int, vs = [.int j] /\ -(2 ^ 62) <= j /\ j < 2 ^ 62 /\ R (Itr 0 j.toNat) H1
def iRng2 (ta : TA) : TI := fun σ H R => ta σ H fun vs H1 => ∃ i j : Int, vs = [.int i, .int j] /\ (-(2 ^ 62) <= i /\ i < 2 ^ 62 /\ -(2 ^ 62) <= j /\ j < 2 ^ 62) /\ R (Itr i (j - i).toNat) H1
theorem yZ {a : Expr} {ta : TA} {p pos : Pos} (hg : Gl X "range") (hm : X.mg "range" = none) (ha : PA X [a] ta) (hs : starEach [a] X.env = [(false, eval a X.env)] := by rfl) : PI X tg (.Call (.Name "range" p) [a] [] pos) (iRng1 ta) := by
  intro pins s σ H R I h
  refine Call_ (vW I hg hm boot_range (PyProof.Rows.callWith_type1 (thn (ha pos pins s σ H _ I h) fun us s1 hh => ?_) hs rfl))
  obtain ⟨vs, H1, I1, r1, q1⟩ := hh
  obtain ⟨j, e, q1, q2, q⟩ := q1
  subst e
  cases r1 with
  | cons r rr =>
    cases rr
    obtain ⟨t, rfl⟩ := r
    exact call_range_1 (qK I1 (by omega) (by omega) q1 q2 (by simpa using q))
theorem cJ {a b : Expr} {ta : TA} {p pos : Pos} (hg : Gl X "range") (hm : X.mg "range" = none) (ha : PA X [a, b] ta) (hs : starEach [a, b] X.env = [(false, eval a X.env), (false, eval b X.env)] := by rfl) (hs2 : starEach [b] X.env = [(false, eval b X.env)] := by rfl) :
    PI X tg (.Call (.Name "range" p) [a, b] [] pos) (iRng2 ta) := by
  intro pins s σ H R I h
  refine Call_ (vW I hg hm boot_range (PyProof.Rows.callWith_type1 (thn (ha pos pins s σ H _ I h) fun us s1 hh => ?_) (by rw [hs, hs2]) (by rw [hs2]; rfl)))
  obtain ⟨vs, H1, I1, r1, q1⟩ := hh
  obtain ⟨i, j, e, ⟨q1, q2, q3, q4⟩, q⟩ := q1
  subst e
  cases r1 with
  | cons r rr =>
    cases rr with
    | cons r' rr =>
      cases rr
      obtain ⟨t, rfl⟩ := r
      obtain ⟨t', rfl⟩ := r'
      exact call_range_2 (qK I1 q1 q2 q3 q4 q)
def tFor (wi : TI) (g : TG) (tb : TS) : TS := fun D σ H => wi σ H fun J H1 => ∃ W : Nat -> Nat -> St -> Hp -> Prop, (∃ m, W 0 m σ H1) /\ ∀ i m σ H, W i m σ H ->
  (J.stop i H /\ D.nx σ H) \/ (J.go i H /\ ∃ N : St -> Hp -> Prop, (∀ σ' H', N σ' H' -> ∃ m', m' < m /\ W (i + 1) m' σ' H') /\ ∀ x H', J.yld i H x H' -> g x σ H' fun σ2 H2 => tb { D with nx := N, ct := N, bk := D.nx } σ2 H2)
def pinsAt (fp : List Addr) (h : Heap) : List (Addr × Obj) := fp.filterMap fun b => (h.get? b).map fun o => (b, o)
theorem mJ {fp : List Addr} {h : Heap} {b : Addr} {o : Obj} (hb : b ∈ fp) (e : h.get? b = some o) : (b, o) ∈ pinsAt fp h := List.mem_filterMap.mpr ⟨b, hb, by rw [e]; rfl⟩
theorem of_pinsAt {fp : List Addr} {h : Heap} {p : Addr × Obj} (hp : p ∈ pinsAt fp h) : p.1 ∈ fp /\ h.get? p.1 = some p.2 := by
  obtain ⟨b, hb, e⟩ := List.mem_filterMap.mp hp
  cases q : h.get? b with
  | none => rw [q] at e; cases e
  | some o =>
    rw [q] at e
    have e' : (b, o) = p := Option.some.inj e
    subst e'
    exact ⟨hb, q⟩
theorem Inv.pinned {pins : List (Addr × Obj)} {σ : St} {H : Hp} {s : Shared} {fp : List Addr} (I : Inv X pins σ H s) (hf : ∀ b ∈ fp, FpOk X pins H b) (ho : ∀ b ∈ fp, ∃ o, s.heap.get? b = some o /\ ∀ v, o.data ≠ .cell v) : Inv X (pins ++ pinsAt fp s.heap) σ H s :=
  I.pins_of fun p hp => (List.mem_append.mp hp).elim (fun z => I.pin p (List.mem_append_right _ z)) fun z => by
    obtain ⟨hb, e⟩ := of_pinsAt z
    obtain ⟨f0, f1, f2, _⟩ := hf p.1 hb
    obtain ⟨o, e', d⟩ := ho p.1 hb
    rw [e] at e'; cases e'
    exact ⟨e, f0, f1, f2, d⟩
theorem Inv.unpinned {pins pl : List (Addr × Obj)} {σ : St} {H : Hp} {s : Shared} (I : Inv X (pins ++ pl) σ H s) : Inv X pins σ H s := I.pins_of fun p hp => I.pin p (List.mem_append_right _ (List.mem_append_left _ hp))
theorem aX {iter : Expr} {body : List Stmt} {wi : TI} {g : TG} {tb : TS} {pos : Pos} (hp : PassesOwn (model X.prog X.w) X.A X.env X.xe) (hc : X.calm = true) (hi : PI X tg iter wi) (hg : PG X tg g) (hb : PSs X body tb)
    (hs : ∀ x, foldedSetIterable iter X.env x = pure x := by intro _; rfl) : PS X (.For tg iter body [] pos) (tFor wi g tb) := by
  intro pins s σ H D I h
  refine wpAny_For (thn (hi pins s σ H _ I h) fun v s1 h1 => thn h1 fun itv s2 h2 => ?_) hs
  obtain ⟨it, fp, tn, J, H2, e, I2, T, st2, f2, W, ⟨m0, w0⟩, turn⟩ := h2
  subst e
  have stat : ∀ {H' : Hp}, (∀ b ∈ fp, H' b = none) -> ∀ b ∈ fp, FpOk X pins H' b := fun hn b hb => ⟨hn b hb, (f2 b hb).2⟩
  refine codeAny_forLoop_any (fun n s' => ∃ i σ' H', Inv X pins σ' H' s' /\ tn i s'.heap /\ (∀ b ∈ fp, H' b = none) /\ W i n σ' H') ?_ m0 ⟨0, σ, H2, I2, st2, fun b hb => (f2 b hb).1, w0⟩
  rintro n s3 ⟨i, σ3, H3, I3, st3, fr3, w3⟩
  rcases turn i n σ3 H3 w3 with ⟨stop, qn⟩ | ⟨go, N, hN, step⟩
  . refine wpAny_passesOwn hp (thn (T.done X rfl rfl rfl hc i pins s3 σ3 H3 X.xe I3 (stat fr3) st3 stop) fun r s4 hh => ?_)
    obtain ⟨hr, I4⟩ := hh
    subst hr
    exact wpAny_execs_nil ⟨σ3, H3, I4, qn⟩
  . refine wpAny_passesOwn hp (thn (T.item X rfl rfl rfl hc i pins s3 σ3 H3 X.xe I3 (stat fr3) st3 go) fun r s4 hh => ?_)
    obtain ⟨u, hr, h4⟩ := hh
    subst hr
    refine wpAny_passesOwn hp (thn h4 fun _ s5 hh => ?_)
    obtain ⟨x, H5, I5, r5, y5, st5, fr5⟩ := hh
    have I5' := I5.pinned (stat fr5) (T.obj _ _ st5)
    refine wpAny_passesOwn hp (thn (hg _ s5 σ3 H5 x u _ I5' r5 (step x H5 y5)) fun _ s6 hh => ?_)
    obtain ⟨σ6, H6, I6, q6⟩ := hh
    refine wpAny_passesOwn hp (thn (hb _ s6 σ6 H6 _ I6 q6) fun f s7 q7 => ?_)
    have again : ∀ {σ7 : St} {H7 : Hp}, Inv X (pins ++ pinsAt fp s5.heap) σ7 H7 s7 -> N σ7 H7 -> ∃ m, m < n /\ ∃ i σ' H', Inv X pins σ' H' s7 /\ tn i s7.heap /\ (∀ b ∈ fp, H' b = none) /\ W i m σ' H' := fun {σ7 H7} I7 n7 => by
      obtain ⟨m', hm, w7⟩ := hN σ7 H7 n7
      refine ⟨m', hm, i + 1, σ7, H7, I7.unpinned, T.keep _ _ _ st5 fun b hb o e => (I7.pin (b, o) (List.mem_append_right _ (List.mem_append_right _ (mJ hb e)))).1, fun b hb => ?_, w7⟩
      obtain ⟨o, e, d⟩ := T.obj _ _ st5 b hb
      exact (I7.pin (b, o) (List.mem_append_right _ (List.mem_append_right _ (mJ hb e)))).2.1
    cases f with
    | next => obtain ⟨σ7, H7, I7, n7⟩ := q7; exact again I7 n7
    | cont => obtain ⟨σ7, H7, I7, n7⟩ := q7; exact again I7 n7
    | brk => obtain ⟨σ7, H7, I7, q7⟩ := q7; exact ⟨σ7, H7, I7.unpinned, q7⟩
    | ret v => obtain ⟨x7, σ7, H7, I7, r7, q7⟩ := q7; exact ⟨x7, σ7, H7, I7.unpinned, r7, q7⟩
end
theorem sJ {K : PySem.W.Frag} {a : Addr} {xs : List V} {g : TG} {tb : TS} {D : Ends} {σ : St} {H : Hp} (Pv : Nat -> St -> Hp -> Prop) (h0 : Pv 0 σ H) (hl : ∀ i σ H, i <= xs.length -> Pv i σ H -> SqL K H a xs)
    (hs : ∀ i x σ H, xs[i]? = some x -> Pv i σ H -> g x σ H fun σ2 H2 => tb { D with nx := Pv (i + 1), ct := Pv (i + 1), bk := D.nx } σ2 H2) (hd : ∀ σ H, Pv xs.length σ H -> D.nx σ H) :
    ∃ W : Nat -> Nat -> St -> Hp -> Prop, (∃ m, W 0 m σ H) /\ ∀ i m σ H, W i m σ H ->
      ((Itl K a).stop i H /\ D.nx σ H) \/ ((Itl K a).go i H /\ ∃ N : St -> Hp -> Prop, (∀ σ' H', N σ' H' -> ∃ m', m' < m /\ W (i + 1) m' σ' H') /\ ∀ x H', (Itl K a).yld i H x H' -> g x σ H' fun σ2 H2 => tb { D with nx := N, ct := N, bk := D.nx } σ2 H2) := by
  refine ⟨fun i m σ H => m = xs.length - i /\ i <= xs.length /\ Pv i σ H, ⟨xs.length, by simp, Nat.zero_le _, h0⟩, ?_⟩
  rintro i m σ H ⟨rfl, hi, p⟩
  have q := hl i σ H hi p
  by_cases hlt : i < xs.length
  . refine .inr ⟨⟨xs, xs[i], q, by simp [hlt]⟩, Pv (i + 1), fun σ' H' p' => ⟨xs.length - (i + 1), by omega, rfl, hlt, p'⟩, fun x H' y => ?_⟩
    obtain ⟨e, y⟩ := y
    subst e
    exact hs i x σ _ (y xs q) p
  . have e : i = xs.length := by omega
    subst e
    exact .inl ⟨⟨xs, q, Nat.le_refl _⟩, hd σ H p⟩
theorem for_tup {K : PySem.W.Frag} {a : Addr} {xs : List V} {g : TG} {tb : TS} {D : Ends} {σ : St} {H : Hp} (Pv : Nat -> St -> Hp -> Prop) (h0 : Pv 0 σ H) (hl : ∀ i σ H, i <= xs.length -> Pv i σ H -> SqT K H a xs)
    (hs : ∀ i x σ H, xs[i]? = some x -> Pv i σ H -> g x σ H fun σ2 H2 => tb { D with nx := Pv (i + 1), ct := Pv (i + 1), bk := D.nx } σ2 H2) (hd : ∀ σ H, Pv xs.length σ H -> D.nx σ H) :
    ∃ W : Nat -> Nat -> St -> Hp -> Prop, (∃ m, W 0 m σ H) /\ ∀ i m σ H, W i m σ H ->
      ((Itt K a).stop i H /\ D.nx σ H) \/ ((Itt K a).go i H /\ ∃ N : St -> Hp -> Prop, (∀ σ' H', N σ' H' -> ∃ m', m' < m /\ W (i + 1) m' σ' H') /\ ∀ x H', (Itt K a).yld i H x H' -> g x σ H' fun σ2 H2 => tb { D with nx := N, ct := N, bk := D.nx } σ2 H2) := by
  refine ⟨fun i m σ H => m = xs.length - i /\ i <= xs.length /\ Pv i σ H, ⟨xs.length, by simp, Nat.zero_le _, h0⟩, ?_⟩
  rintro i m σ H ⟨rfl, hi, p⟩
  have q := hl i σ H hi p
  by_cases hlt : i < xs.length
  . refine .inr ⟨⟨xs, xs[i], q, by simp [hlt]⟩, Pv (i + 1), fun σ' H' p' => ⟨xs.length - (i + 1), by omega, rfl, hlt, p'⟩, fun x H' y => ?_⟩
    obtain ⟨e, y⟩ := y
    subst e
    exact hs i x σ _ (y xs q) p
  . have e : i = xs.length := by omega
    subst e
    exact .inl ⟨⟨xs, q, Nat.le_refl _⟩, hd σ H p⟩
theorem fX {lo : Int} {n : Nat} {g : TG} {tb : TS} {D : Ends} {σ : St} {H : Hp} (Pv : Nat -> St -> Hp -> Prop) (h0 : Pv 0 σ H)
    (hs : ∀ i σ H, i < n -> Pv i σ H -> g (.int (lo + i)) σ H fun σ2 H2 => tb { D with nx := Pv (i + 1), ct := Pv (i + 1), bk := D.nx } σ2 H2) (hd : ∀ σ H, Pv n σ H -> D.nx σ H) :
    ∃ W : Nat -> Nat -> St -> Hp -> Prop, (∃ m, W 0 m σ H) /\ ∀ i m σ H, W i m σ H ->
      ((Itr lo n).stop i H /\ D.nx σ H) \/ ((Itr lo n).go i H /\ ∃ N : St -> Hp -> Prop, (∀ σ' H', N σ' H' -> ∃ m', m' < m /\ W (i + 1) m' σ' H') /\ ∀ x H', (Itr lo n).yld i H x H' -> g x σ H' fun σ2 H2 => tb { D with nx := N, ct := N, bk := D.nx } σ2 H2) := by
  refine ⟨fun i m σ H => m = n - i /\ i <= n /\ Pv i σ H, ⟨n, by simp, Nat.zero_le _, h0⟩, ?_⟩
  rintro i m σ H ⟨rfl, hi, p⟩
  by_cases hlt : i < n
  . refine .inr ⟨hlt, Pv (i + 1), fun σ' H' p' => ⟨n - (i + 1), by omega, rfl, hlt, p'⟩, fun x H' y => ?_⟩
    obtain ⟨e, y⟩ := y
    subst e y
    exact hs i σ _ hlt p
  . have e : i = n := by omega
    subst e
    exact .inl ⟨Nat.le_refl _, hd σ H p⟩
end L2
namespace L2
open PySem PySem.Spec PyProof.Rows
abbrev R2 := V -> V -> Hp -> VK -> Prop
def OpR (X : Cx) (f : Value -> Value -> Sem Value) (r : R2) : Prop :=
  ∀ (pins : List (Addr × Obj)) (s : Shared) (σ : St) (H : Hp) (x y : V) (v u : Value) (Q : VK), Inv X pins σ H s -> RelV x v -> RelV y u -> r x y H Q ->
    wpAny (model X.prog X.w) X.A (f v u) (EP X pins σ Q) X.xe s
def UnR (X : Cx) (f : Value -> Sem Value) (r : V -> Hp -> VK -> Prop) : Prop :=
  ∀ (pins : List (Addr × Obj)) (s : Shared) (σ : St) (H : Hp) (x : V) (v : Value) (Q : VK), Inv X pins σ H s -> RelV x v -> r x H Q ->
    wpAny (model X.prog X.w) X.A (f v) (EP X pins σ Q) X.xe s
def CallR (X : Cx) (f : Value) (r : List V -> Hp -> VK -> Prop) : Prop :=
  ∀ (pins : List (Addr × Obj)) (s : Shared) (σ : St) (H : Hp) (xs : List V) (us : List Value) (Q : VK), Inv X pins σ H s -> Vals xs us -> r xs H Q ->
    wpAny (model X.prog X.w) X.A (call f us) (EP X pins σ Q) X.xe s
def tOp (r : R2) (ta tb : TE) : TE := fun σ H Q => ta σ H fun x H1 => tb σ H1 fun y H2 => r x y H2 Q
def tUn (r : V -> Hp -> VK -> Prop) (ta : TE) : TE := fun σ H Q => ta σ H fun x H1 => r x H1 Q
def rI (C : Int -> Int -> Prop) (g : Int -> Int -> V) : R2 := fun x y H Q => ∃ i j, x = .int i /\ y = .int j /\ C i j /\ Q (g i j) H
def rI0 (g : Int -> Int -> V) : R2 := fun x y H Q => ∃ i j, x = .int i /\ y = .int j /\ Q (g i j) H
def rU (g : Int -> V) : V -> Hp -> VK -> Prop := fun x H Q => ∃ i, x = .int i /\ Q (g i) H
section
variable {X : Cx} {a b c : Expr} {ta tb tc : TE} {pos : Pos}
theorem binT (ha : PE X a ta) (hb : PE X b tb) {pins : List (Addr × Obj)} {s : Shared} {σ : St} {H : Hp} {R : V -> V -> Hp -> Prop} (I : Inv X pins σ H s)
    (h : ta σ H fun x H1 => tb σ H1 fun y H2 => R x y H2) {Q : Value -> Shared -> Prop} {f : Value -> Value -> Sem Value}
    (hf : ∀ v u s2 x y H2, Inv X pins σ H2 s2 -> RelV x v -> RelV y u -> R x y H2 -> wpAny (model X.prog X.w) X.A (f v u) Q X.xe s2) :
    wpAny (model X.prog X.w) X.A (eval a X.env) (fun v s₁ => wpAny (model X.prog X.w) X.A (eval b X.env) (fun u s₂ => wpAny (model X.prog X.w) X.A (f v u) Q X.xe s₂) X.xe s₁) X.xe s := by
  refine thn (ha pins s σ H _ I h) fun v s1 hh => ?_
  obtain ⟨x, H1, I1, r1, q1⟩ := hh
  refine thn (hb pins s1 σ H1 _ I1 q1) fun u s2 hh => ?_
  obtain ⟨y, H2, I2, r2, q2⟩ := hh
  exact hf v u s2 x y H2 I2 r1 r2 q2
theorem pQ {op : Operator} {r : R2} (ho : OpR X (binaryOp op) r) (ha : PE X a ta) (hb : PE X b tb) : PE X (.BinOp a op b pos) (tOp r ta tb) := by
  intro pins s σ H Q I h
  exact wpAny_BinOp (binT ha hb I h fun v u s2 x y H2 I2 rx ry q => ho pins s2 σ H2 x y v u Q I2 rx ry q)
theorem gY {op : UnaryOp} {r : V -> Hp -> VK -> Prop} (ho : UnR X (unaryOp op) r) (ha : PE X a ta) : PE X (.UnaryOp op a pos) (tUn r ta) := by
  intro pins s σ H Q I h
  exact UnaryOp_ (thn (ha pins s σ H _ I h) fun v s1 ⟨x, H1, I1, r1, q1⟩ => ho pins s1 σ H1 x v Q I1 r1 q1)
theorem opI {f : Value -> Value -> Sem Value} {C : Int -> Int -> Prop} {g : Int -> Int -> Int}
    (rule : ∀ (i j : Int) (t u : Tok) (s : Shared) (Q : Value -> Shared -> Prop) (E : Value -> Shared -> Prop), C i j -> Q (.int (g i j) s.toks) { s with toks := s.toks + 1 } -> wpAny (model X.prog X.w) X.A (f (.int i t) (.int j u)) Q E s) :
    OpR X f (rI C fun i j => .int (g i j)) := by
  intro pins s σ H x y v u Q I rx ry h
  obtain ⟨i, j, rfl, rfl, hc, q⟩ := h
  obtain ⟨t, rfl⟩ := rx
  obtain ⟨t', rfl⟩ := ry
  exact rule i j t t' s _ _ hc ⟨.int (g i j), H, I.tok _, ⟨_, rfl⟩, q⟩
theorem opI0 {f : Value -> Value -> Sem Value} {g : Int -> Int -> Int}
    (rule : ∀ (i j : Int) (t u : Tok) (s : Shared) (Q : Value -> Shared -> Prop) (E : Value -> Shared -> Prop), Q (.int (g i j) s.toks) { s with toks := s.toks + 1 } -> wpAny (model X.prog X.w) X.A (f (.int i t) (.int j u)) Q E s) :
    OpR X f (rI0 fun i j => .int (g i j)) := by
  intro pins s σ H x y v u Q I rx ry h
  obtain ⟨i, j, rfl, rfl, q⟩ := h
  obtain ⟨t, rfl⟩ := rx
  obtain ⟨t', rfl⟩ := ry
  exact rule i j t t' s _ _ ⟨.int (g i j), H, I.tok _, ⟨_, rfl⟩, q⟩
theorem opB0 {f : Value -> Value -> Sem Value} {g : Int -> Int -> Bool}
    (rule : ∀ (i j : Int) (t u : Tok) (s : Shared) (Q : Value -> Shared -> Prop) (E : Value -> Shared -> Prop), Q (.bool (g i j)) s -> wpAny (model X.prog X.w) X.A (f (.int i t) (.int j u)) Q E s) :
    OpR X f (rI0 fun i j => .bl (g i j)) := by
  intro pins s σ H x y v u Q I rx ry h
  obtain ⟨i, j, rfl, rfl, q⟩ := h
  obtain ⟨t, rfl⟩ := rx
  obtain ⟨t', rfl⟩ := ry
  exact rule i j t t' s _ _ ⟨.bl (g i j), H, I, rfl, q⟩
def CDiv (i j : Int) : Prop := 0 < j /\ j < 1073741824
def CPow (i j : Int) : Prop := 0 <= j /\ j <= 1000000 /\ i.natAbs < 2 ^ 64
def CMul (i j : Int) : Prop := (-(2 ^ 64) < i /\ i < 2 ^ 64) \/ (-(2 ^ 64) < j /\ j < 2 ^ 64)
theorem CMul.ok {i j : Int} (h : CMul i j) : IntMulOk i j := by
  rcases h with ⟨h1, h2⟩ | ⟨h1, h2⟩
  . exact .of_left (intBits_le_64 h1 h2)
  . exact .of_right (intBits_le_64 h1 h2)
theorem eZ : OpR X (binaryOp .Add) (rI0 fun i j => .int (i + j)) := opI0 fun _ _ _ _ _ _ _ q => add_int q
theorem iX : OpR X (binaryOp .Sub) (rI0 fun i j => .int (i - j)) := opI0 fun _ _ _ _ _ _ _ q => sub_int q
theorem qV : OpR X (binaryOp .Mult) (rI CMul fun i j => .int (i * j)) := opI fun _ _ _ _ _ _ _ hc q => mul_int q hc.ok
theorem oO : OpR X (binaryOp .FloorDiv) (rI CDiv fun i j => .int (i / j)) := opI fun i j _ _ _ _ _ hc q => by
  have h1 : (0 : Int) < j := hc.1
  have h2 : j < 1073741824 := hc.2
  exact floordiv_int (by omega) (by rw [Int.fdiv_eq_ediv_of_nonneg i (by omega)]; exact q) (.inl (PyProof.noPylong_small (by omega)))
theorem rV : OpR X (binaryOp .Mod) (rI (fun _ j => 0 < j) fun i j => .int (i % j)) := opI fun i j _ _ _ _ _ hc q => by
  have h1 : (0 : Int) < j := hc
  exact mod_int' (by omega) (by rw [Int.fmod_eq_emod_of_nonneg i (by omega)]; exact q)
theorem op_pow : OpR X (binaryOp .Pow) (rI CPow fun i j => .int (i ^ j.toNat)) := opI fun _ _ _ _ _ _ _ hc q => pow_int_small hc.1 hc.2.1 hc.2.2 q
theorem unI {f : Value -> Sem Value} {g : Int -> Int}
    (rule : ∀ (i : Int) (t : Tok) (s : Shared) (Q : Value -> Shared -> Prop) (E : Value -> Shared -> Prop), Q (.int (g i) s.toks) { s with toks := s.toks + 1 } -> wpAny (model X.prog X.w) X.A (f (.int i t)) Q E s) :
    UnR X f (rU fun i => .int (g i)) := by
  intro pins s σ H x v Q I rx h
  obtain ⟨i, rfl, q⟩ := h
  obtain ⟨t, rfl⟩ := rx
  exact rule i t s _ _ ⟨.int (g i), H, I.tok _, ⟨_, rfl⟩, q⟩
theorem wW : UnR X (unaryOp .USub) (rU fun i => .int (-i)) := unI fun _ _ _ _ _ q => neg_int q
end
def scal : V -> V -> Bool
  | .non, .non => true | .non, .int _ => true | .int _, .non => true | .non, .bl _ => true | .bl _, .non => true | .non, .str _ => true | .str _, .non => true
  | .int _, .int _ => true | .bl _, .bl _ => true | .str _, .str _ => true | .byt _, .byt _ => true
  | .int _, .str _ => true | .str _, .int _ => true | .bl _, .str _ => true | .str _, .bl _ => true
  | _, _ => false
def rEq : R2 := fun x y H Q => scal x y = true /\ Q (.bl (decide (x = y))) H
def rNe : R2 := fun x y H Q => scal x y = true /\ Q (.bl (!decide (x = y))) H
theorem pO {i j : Int} : decide (V.int i = V.int j) = (i == j) := by
  rw [Bool.eq_iff_iff]
  simp
theorem dec_bl {i j : Bool} : decide (V.bl i = V.bl j) = (i == j) := by
  rw [Bool.eq_iff_iff]
  simp
theorem qO {i j : Str} : decide (V.str i = V.str j) = (i == j) := by
  rw [Bool.eq_iff_iff]
  simp
theorem rO {i j : Array UInt8} : decide (V.byt i = V.byt j) = (i.toList == j.toList) := by
  rw [Bool.eq_iff_iff]
  cases i
  cases j
  simp
section
variable {X : Cx} {a b c : Expr} {ta tb tc : TE} {pos : Pos}
theorem dZ {pins : List (Addr × Obj)} {σ : St} {H : Hp} {s : Shared} {Q : VK} {k k' : Bool} (I : Inv X pins σ H s) (q : Q (.bl k) H) (e : k = k') : EP X pins σ Q (.bool k') s := by
  subst e
  exact ⟨.bl k, H, I, rfl, q⟩
theorem jX : OpR X (compareOp .Eq) rEq := by
  intro pins s σ H x y v u Q I rx ry h
  obtain ⟨hs, q⟩ := h
  cases x with
  | non =>
    cases rx
    cases y with
    | non => cases ry; exact PySem.EqNone.eq_none_none (dZ I q (by simp))
    | bl j => cases ry; exact PySem.EqNone.eq_none_bool (dZ I q (by simp))
    | int j => obtain ⟨t', rfl⟩ := ry; exact PySem.EqNone.eq_none_int (dZ I q (by simp))
    | str j => obtain ⟨t', rfl⟩ := ry; exact PySem.EqNone.eq_none_str (dZ I q (by simp))
    | _ => exact absurd (show false = true from hs) Bool.false_ne_true
  | bl i =>
    cases rx
    cases y with
    | non => cases ry; exact PySem.EqNone.eq_bool_none (dZ I q (by simp))
    | bl j => cases ry; exact eq_bool (dZ I q dec_bl)
    | str j => obtain ⟨t', rfl⟩ := ry; exact PySem.EqMixed.eq_bool_str (dZ I q (by simp))
    | _ => exact absurd (show false = true from hs) Bool.false_ne_true
  | int i =>
    obtain ⟨t, rfl⟩ := rx
    cases y with
    | non => cases ry; exact PySem.EqNone.eq_int_none (dZ I q (by simp))
    | int j => obtain ⟨t', rfl⟩ := ry; exact eq_int (dZ I q pO)
    | str j => obtain ⟨t', rfl⟩ := ry; exact PySem.EqMixed.eq_int_str (dZ I q (by simp))
    | _ => exact absurd (show false = true from hs) Bool.false_ne_true
  | str i =>
    obtain ⟨t, rfl⟩ := rx
    cases y with
    | non => cases ry; exact PySem.EqNone.eq_str_none (dZ I q (by simp))
    | bl j => cases ry; exact PySem.EqMixed.eq_str_bool (dZ I q (by simp))
    | int j => obtain ⟨t', rfl⟩ := ry; exact PySem.EqMixed.eq_str_int (dZ I q (by simp))
    | str j => obtain ⟨t', rfl⟩ := ry; exact eq_str (dZ I q qO)
    | _ => exact absurd (show false = true from hs) Bool.false_ne_true
  | byt i =>
    obtain ⟨t, rfl⟩ := rx
    cases y with
    | byt j => obtain ⟨t', rfl⟩ := ry; exact PySem.W.eq_bytes (dZ I q rO)
    | _ => exact absurd (show false = true from hs) Bool.false_ne_true
  | _ => cases y <;> exact absurd (show false = true from hs) Bool.false_ne_true
theorem rK : OpR X (compareOp .NotEq) rNe := by
  intro pins s σ H x y v u Q I rx ry h
  obtain ⟨hs, q⟩ := h
  cases x with
  | non =>
    cases rx
    cases y with
    | non => cases ry; exact PySem.EqNone.ne_none_none (dZ I q (by simp))
    | bl j => cases ry; exact PySem.EqNone.ne_none_bool (dZ I q (by simp))
    | int j => obtain ⟨t', rfl⟩ := ry; exact PySem.EqNone.ne_none_int (dZ I q (by simp))
    | str j => obtain ⟨t', rfl⟩ := ry; exact PySem.EqNone.ne_none_str (dZ I q (by simp))
    | _ => exact absurd (show false = true from hs) Bool.false_ne_true
  | bl i =>
    cases rx
    cases y with
    | non => cases ry; exact PySem.EqNone.ne_bool_none (dZ I q (by simp))
    | bl j => cases ry; exact ne_bool (dZ I q (congrArg not dec_bl))
    | str j => obtain ⟨t', rfl⟩ := ry; exact PySem.EqMixed.ne_bool_str (dZ I q (by simp))
    | _ => exact absurd (show false = true from hs) Bool.false_ne_true
  | int i =>
    obtain ⟨t, rfl⟩ := rx
    cases y with
    | non => cases ry; exact PySem.EqNone.ne_int_none (dZ I q (by simp))
    | int j => obtain ⟨t', rfl⟩ := ry; exact ne_int (dZ I q (congrArg not pO))
    | str j => obtain ⟨t', rfl⟩ := ry; exact PySem.EqMixed.ne_int_str (dZ I q (by simp))
    | _ => exact absurd (show false = true from hs) Bool.false_ne_true
  | str i =>
    obtain ⟨t, rfl⟩ := rx
    cases y with
    | non => cases ry; exact PySem.EqNone.ne_str_none (dZ I q (by simp))
    | bl j => cases ry; exact PySem.EqMixed.ne_str_bool (dZ I q (by simp))
    | int j => obtain ⟨t', rfl⟩ := ry; exact PySem.EqMixed.ne_str_int (dZ I q (by simp))
    | str j => obtain ⟨t', rfl⟩ := ry; exact ne_str (dZ I q (congrArg not qO))
    | _ => exact absurd (show false = true from hs) Bool.false_ne_true
  | byt i =>
    obtain ⟨t, rfl⟩ := rx
    cases y with
    | byt j => obtain ⟨t', rfl⟩ := ry; exact PySem.W.ne_bytes (dZ I q (congrArg not rO))
    | _ => exact absurd (show false = true from hs) Bool.false_ne_true
  | _ => cases y <;> exact absurd (show false = true from hs) Bool.false_ne_true
theorem op_gt : OpR X (compareOp .Gt) (rI0 fun i j => .bl (decide (j < i))) := opB0 fun _ _ _ _ _ _ _ q => gt_int q
theorem op_ge : OpR X (compareOp .GtE) (rI0 fun i j => .bl (decide (j <= i))) := opB0 fun _ _ _ _ _ _ _ q => ge_int q
theorem OpR.or {f : Value -> Value -> Sem Value} {r r' : R2} (h : OpR X f r) (h' : OpR X f r') : OpR X f (fun x y H Q => r x y H Q \/ r' x y H Q) := by
  intro pins s σ H x y v u Q I rx ry q
  rcases q with q | q
  . exact h pins s σ H x y v u Q I rx ry q
  . exact h' pins s σ H x y v u Q I rx ry q
theorem nomark (b : Expr) {op : CmpOp} (h : op ≠ .In := by decide) (h2 : op ≠ .NotIn := by decide) : behindInMarks op b = false := by
  have e1 : (op == CmpOp.In) = false := by cases op <;> first | rfl | exact absurd rfl h
  have e2 : (op == CmpOp.NotIn) = false := by cases op <;> first | rfl | exact absurd rfl h2
  cases b <;> simp [behindInMarks, e1, e2]
theorem pe_cmpR {op : CmpOp} {r : R2} (ho : OpR X (compareOp op) r) (ha : PE X a ta) (hb : PE X b tb) (hm : behindInMarks op b = false) : PE X (.Compare a [op] [b] pos) (tOp r ta tb) := by
  intro pins s σ H Q I h
  exact wpAny_Compare1 (binT ha hb I h fun v u s2 x y H2 I2 rx ry q => ho pins s2 σ H2 x y v u Q I2 rx ry q) hm
def tTest (t : TE) : TT := fun σ H Q => t σ H fun x H' => ∃ k, x = .bl k /\ Q k H'
theorem wQ {op : CmpOp} {r : R2} (ho : OpR X (compareOp op) r) (ha : PE X a ta) (hb : PE X b tb) (hm : behindInMarks op b = false) : PT X (.Compare a [op] [b] pos) (tTest (tOp r ta tb)) := by
  intro pins s σ H Q I h
  refine wpAny_isTrue_Compare1 (thn (ha pins s σ H _ I h) fun v s1 ⟨x, H1, I1, r1, q1⟩ => thn (hb pins s1 σ H1 _ I1 q1) fun u s2 ⟨y, H2, I2, r2, q2⟩ =>
    thn (ho pins s2 σ H2 x y v u _ I2 r1 r2 q2) fun c s3 ⟨z, H3, I3, r3, k, e, q3⟩ => ?_) hm
  subst e
  cases r3
  exact wpAny_truthy_bool ⟨H3, I3, q3⟩
theorem line63 : (sizeLine : Nat) < 2 ^ 63 := by rw [sizeLine_eq]; decide
theorem uQ : OpR X (binaryOp .Add) (fun x y H Q => ∃ i j, x = .str i /\ y = .str j /\ i.length + j.length <= sizeLine /\ Q (.str (i ++ j)) H) := by
  intro pins s σ H x y v u Q I rx ry h
  obtain ⟨i, j, rfl, rfl, hz, q⟩ := h
  obtain ⟨t, rfl⟩ := rx
  obtain ⟨t', rfl⟩ := ry
  exact add_str (fun t' tk => ⟨.str (i ++ j), H, I.tok _, ⟨_, rfl⟩, q⟩) hz
theorem vals1 {x : V} {us : List Value} (r : Vals [x] us) : ∃ u, us = [u] /\ RelV x u := by
  cases r with
  | cons r1 r2 => cases r2; exact ⟨_, rfl, r1⟩
theorem vals2 {x y : V} {us : List Value} (r : Vals [x, y] us) : ∃ u w', us = [u, w'] /\ RelV x u /\ RelV y w' := by
  cases r with
  | cons r1 r2 =>
    cases r2 with
    | cons r3 r4 => cases r4; exact ⟨_, _, rfl, r1, r3⟩
theorem call_abs : CallR X (.builtin "abs") (fun xs H Q => ∃ i, xs = [.int i] /\ Q (.int (if i < 0 then -i else i)) H) := by
  intro pins s σ H xs us Q I r h
  obtain ⟨i, rfl, q⟩ := h
  obtain ⟨u, rfl, t, rfl⟩ := vals1 r
  exact call_abs_int fun u tk => ⟨.int (if i < 0 then -i else i), H, I.tok _, ⟨_, rfl⟩, q⟩
theorem call_min2 (hc : X.calm = true) : CallR X (.builtin "min") (fun xs H Q => ∃ i j, xs = [.int i, .int j] /\ Q (.int (if j < i then j else i)) H) := by
  intro pins s σ H xs us Q I r h
  obtain ⟨i, j, rfl, q⟩ := h
  obtain ⟨u, w', rfl, ⟨t, rfl⟩, ⟨t', rfl⟩⟩ := vals2 r
  refine min_two_ints (I.ok.hd hc) fun h' tk k => ⟨_, H, I.kept k, ?_, q⟩
  by_cases hj : j < i
  . rw [if_pos hj, if_pos hj]; exact ⟨_, rfl⟩
  . rw [if_neg hj, if_neg hj]; exact ⟨_, rfl⟩
theorem aJ : CallR X (.type "str") (fun xs H Q => ∃ i, xs = [.int i] /\ i.natAbs.log2 < 1920 /\ Q (.str (toString i)) H) := by
  intro pins s σ H xs us Q I r h
  obtain ⟨i, rfl, hz, q⟩ := h
  obtain ⟨u, rfl, t, rfl⟩ := vals1 r
  exact PySem.P.str_of_int hz ⟨.str _, H, I.tok _, ⟨_, rfl⟩, q⟩
end
end L2
namespace L2
open PySem PySem.Spec PyProof.Rows
structure ObjM (h : Heap) (x dx C : Addr) (mA : Str -> Option Value) : Prop where
  obj : h.get? x = some (PySem.W.instObj C dx)
  ns : h.Ns1 dx mA
  ne : dx ≠ x
theorem lookIn_ns {h : Heap} {dx : Addr} {mA : Str -> Option Value} (n : h.Ns1 dx mA) : ∃ od, h.get? dx = some od /\ ∀ name, PySem.W.lookIn name od = some (mA name) := by
  obtain ⟨o, es, ep, ho, hd, hk, _, hm⟩ := n
  refine ⟨o, ho, fun name => ?_⟩
  have e := hm name
  unfold nsFind findBy at e
  rw [<- Array.find?_toList] at e
  unfold PySem.W.lookIn
  rw [hd]
  dsimp only
  split
  . rename_i y q
    rw [q] at e
    exact congrArg some e
  . rename_i q
    rw [q] at e
    have a : es.toList.any (·.refKey) = false := by
      rw [List.any_eq_false]
      intro y hy
      obtain ⟨z, t, hkey⟩ := hk y (Array.mem_toList_iff.mp hy)
      simp [DictEntry.refKey, hkey]
    have a' : ¬ es.toList.any (·.refKey) = true := by rw [a]; exact Bool.false_ne_true
    rw [if_neg a']
    exact congrArg some e
theorem ObjM.look {h : Heap} {x dx C : Addr} {mA : Str -> Option Value} (I : ObjM h x dx C mA) : ∃ od, PySem.W.InstAt h x (PySem.W.instObj C dx) C (some od) /\ ∀ name, PySem.W.lookIn name od = some (mA name) :=
  let ⟨od, ho, hl⟩ := lookIn_ns I.ns
  ⟨od, ⟨I.obj, rfl, rfl, ho⟩, hl⟩
section
variable {prog : Program} {w : World} {A : Around} {E : Value -> Shared -> Prop} {s : Shared} {K : PySem.W.Frag} {x dx C f : Addr} {mA : Str -> Option Value} {name : Str} {v : Value}
end
section
variable {P : Program} {w : World} {H H' : Hp} {h h' : Heap} {a C dx : Addr} {fs fs' : List (Str × V)}
theorem ins_get (hok : HOk P w H h) (e : H a = some (.ins C dx fs)) : ∃ mA, ObjM h a dx C mA /\ (∀ f, RelO (fs.lookup f) (mA f)) /\ PySem.Within mA (fs.map (·.1)) /\ fs.length <= 1000 /\ H dx = some (.own a) := by
  obtain ⟨d, z, ne, ob, mA, n, r, q⟩ := (show ObjOk P w H h a (.ins C dx fs) from hok a _ e)
  exact ⟨mA, ⟨ob, n, ne⟩, r, q, z, d⟩
end
structure Cls (K : PySem.W.Frag) (C : Addr) : Prop where
  pg : PySem.W.plainGet K C Str.empty = true
  hd : PySem.W.hasDictIn K C = true
  po : PySem.W.plainOver K C = true
  sa : PySem.W.findIn K (.ref C) "__setattr__" = some (some (.builtin "object.__setattr__"))
theorem Cls.get {K : PySem.W.Frag} {C : Addr} (c : Cls K C) (f : Str) : PySem.W.plainGet K C f = true := c.pg
section
variable {X : Cx} {pins : List (Addr × Obj)} {σ : St} {H : Hp} {s : Shared} {a C dx : Addr} {fs : List (Str × V)} {f : Str} {v : V} {A : Around} {E : Value -> Shared -> Prop}
theorem Inv.made (I : Inv X pins σ H s) : Inv X pins σ (upd (upd H s.heap.objs.size (.own (s.heap.objs.size + 1))) (s.heap.objs.size + 1) (.ins C s.heap.objs.size []))
    { s with heap := (s.heap.push PySem.W.emptyDict).push (PySem.W.instObj C s.heap.objs.size) } := by
  have e1 : (s.heap.push PySem.W.emptyDict).get? s.heap.objs.size = some PySem.W.emptyDict := Heap.get?_push_size s.heap rfl
  have e2 : ((s.heap.push PySem.W.emptyDict).push (PySem.W.instObj C s.heap.objs.size)).get? (s.heap.objs.size + 1) = some (PySem.W.instObj C s.heap.objs.size) := by
    have := Heap.get?_push_size (s.heap.push PySem.W.emptyDict) (o := PySem.W.instObj C s.heap.objs.size) rfl
    rwa [Heap.size_push] at this
  have e3 : (s.heap.push PySem.W.emptyDict).Ns s.heap.objs.size (fun _ => none) := ⟨PySem.W.emptyDict, #[], _, e1, rfl, (fun e he => absurd he (by simp)), fun _ => rfl⟩
  have I1 := I.laid (a := s.heap.objs.size) (o := .own (s.heap.objs.size + 1)) (h' := s.heap.push PySem.W.emptyDict) (t' := s.toks) (fun b u q => Heap.get?_push_of_some _ q) (Nat.le_refl _) ⟨_, e1⟩
  refine I1.laid (a := s.heap.objs.size + 1) (o := .ins C s.heap.objs.size []) (t' := s.toks) (fun b u q => Heap.get?_push_of_some _ q) (Nat.le_of_eq (Heap.size_push _ _)) ?_
  have ne : s.heap.objs.size ≠ s.heap.objs.size + 1 := Nat.ne_of_lt (Nat.lt_succ_self _)
  refine ⟨by rw [sQ ne, jQ], Nat.zero_le _, ne, e2, fun _ => none, (Heap.Ns1.of_empty e3).at fun o q => Heap.get?_push_of_some _ q, fun _ => True.intro, fun y hy => absurd rfl hy⟩
end
section
variable {X : Cx} {o e value : Expr} {f : Str} {pos pos' tpos : Pos} {ta tv : TE}
end
section
variable {X : Cx} {pins : List (Addr × Obj)} {σ : St} {H : Hp} {s : Shared} {A : Around} {E : Value -> Shared -> Prop} {Q : Value -> Shared -> Prop} {c : Value} {b : Bool}
inductive TyOf (K : PySem.W.Frag) (H : Hp) : V -> Value -> Prop where
  | non : TyOf K H .non (.type "NoneType")
  | bl (x : Bool) : TyOf K H (.bl x) (.type "bool")
  | int (i : Int) : TyOf K H (.int i) (.type "int")
  | str (x : Str) : TyOf K H (.str x) (.type "str")
  | flt (x : UInt64) : TyOf K H (.flt x) (.type "float")
  | lst {a : Addr} {xs : List V} (e : H a = some (.lst xs)) : TyOf K H (.ref a) (.type "list")
  | frz {a : Addr} {o : Obj} {xs : List V} (e : H a = some (.frz o (.lst xs))) : TyOf K H (.ref a) (.type "list")
  | tup {a : Addr} {xs : List V} (e : H a = some (.tup xs)) : TyOf K H (.ref a) (.type "tuple")
  | dK {a : Addr} {kvs : List (Key × V)} (e : H a = some (.dK kvs)) : TyOf K H (.ref a) (.type "dict")
  | dT {a : Addr} {kvs : List (List Key × V)} (e : H a = some (.dT kvs)) : TyOf K H (.ref a) (.type "dict")
  | ins {a C dx : Addr} {fs : List (Str × V)} (e : H a = some (.ins C dx fs)) (cl : Cls K C) (ha : PySem.W.findIn K (.ref C) "__class__" = some (some (.builtin "object.__class__")))
      (hn : PySem.W.specialIn K (.builtin "object.__class__") "__get__" = some (some (.builtin "getset_descriptor.__get__"))) (htk : PySem.W.takesIn K (.builtin "object.__class__") = some true)
      (hm : PySem.W.mroIn K C (.type "object") = some true) : TyOf K H (.ref a) (.ref C)
theorem isinst_ok {x : V} {u t : Value} (I : Inv X pins σ H s) (rx : RelV x u) (ty : TyOf X.K H x t) (e : PySem.W.kitOne X.K t c = some b) (h : ∀ tk, Q (.bool b) { s with toks := tk }) :
    wpAny (model X.prog X.w) A (call (.builtin "isinstance") [u, c]) Q E s := by
  cases ty with
  | non => cases (show u = Value.none from rx); exact PySem.W.kia_one PySem.W.kitx_none I.kIn True.intro e (fun z => nomatch z) h
  | bl y => cases (show u = Value.bool y from rx); exact PySem.W.kia_one PySem.W.kitx_bool I.kIn True.intro e (fun z => nomatch z) h
  | int i => obtain ⟨t, q⟩ := (show ∃ t, u = Value.int i t from rx); cases q; exact PySem.W.kia_one PySem.W.kitx_int I.kIn True.intro e (fun z => nomatch z) h
  | str y => obtain ⟨t, q⟩ := (show ∃ t, u = Value.str y t from rx); cases q; exact PySem.W.kia_one PySem.W.kitx_str I.kIn True.intro e (fun z => nomatch z) h
  | flt y => obtain ⟨t, q⟩ := (show ∃ t, u = Value.float y t from rx); cases q; exact PySem.W.kia_one PySem.W.kitx_float I.kIn True.intro e (fun z => nomatch z) h
  | @lst a xs ea =>
    cases (show u = Value.ref a from rx)
    obtain ⟨_, _, n, _, h1⟩ := (show ObjOk X.prog X.w H s.heap a (.lst xs) from I.hok a _ ea)
    exact PySem.W.kia_one PySem.W.kitx_list I.kIn ⟨_, h1, rfl⟩ e (fun z => nomatch z) h
  | @frz a ob xs ea =>
    cases (show u = Value.ref a from rx)
    obtain ⟨_, _, _, n, _, h1⟩ := (show ObjOk X.prog X.w H s.heap a (.frz ob (.lst xs)) from I.hok a _ ea)
    exact PySem.W.kia_one PySem.W.kitx_list I.kIn ⟨_, h1, rfl⟩ e (fun z => nomatch z) h
  | @tup a xs ea =>
    cases (show u = Value.ref a from rx)
    obtain ⟨_, _, _, p⟩ := (show ObjOk X.prog X.w H s.heap a (.tup xs) from I.hok a _ ea)
    obtain ⟨o, h1, h2, _⟩ := p
    exact PySem.W.kia_one PySem.W.kitx_tuple I.kIn ⟨o, h1, h2⟩ e (fun z => nomatch z) h
  | @dK a kvs ea =>
    cases (show u = Value.ref a from rx)
    obtain ⟨_, _, vs, _, p⟩ := (show ObjOk X.prog X.w H s.heap a (.dK kvs) from I.hok a _ ea)
    obtain ⟨o, es, ep, h1, h2, _⟩ := p
    exact PySem.W.kia_one PySem.W.kitx_dict I.kIn ⟨o, h1, h2.1⟩ e (fun z => nomatch z) h
  | @dT a kvs ea =>
    cases (show u = Value.ref a from rx)
    obtain ⟨_, _, xs, _, o, es, ep, h1, h2, _⟩ := (show ObjOk X.prog X.w H s.heap a (.dT kvs) from I.hok a _ ea)
    exact PySem.W.kia_one PySem.W.kitx_dict I.kIn ⟨o, h1, h2.1⟩ e (fun z => nomatch z) h
  | @ins a C dx fs ea cl ha hn htk hm =>
    cases (show u = Value.ref a from rx)
    obtain ⟨mA, O, _⟩ := ins_get I.hok ea
    obtain ⟨od, J, _⟩ := O.look
    exact PySem.W.kia_one (PySem.W.kitx_own (cl.get _) cl.hd ha hn htk hm) I.kIn J e (fun z => nomatch z) h
end
end L2
namespace L2
open PySem PySem.Spec PyProof.Rows
structure Room (k : Nat) (A : Around) : Prop where
  hd : A.handled = none
  dp : A.depth + 3 * k + 5 < recursionLimit
  un : A.units + 16 * k + 200 < cLine
theorem Room.mono {j k : Nat} {A : Around} (r : Room k A) (h : j <= k) : Room j A := ⟨r.hd, by have := r.dp; omega, by have := r.un; omega⟩
theorem Room.deeper {k : Nat} {A : Around} (r : Room (k + 1) A) (env : Env) : Room k (A.deeper env) :=
  ⟨r.hd, by have := r.dp; show A.depth + 1 + 3 * k + 5 < _; omega, by have := r.un; show A.units + 3 + 16 * k + 200 < _; omega⟩
theorem Room.in1 {k : Nat} {A : Around} (r : Room (k + 1) A) : Room k A.in1 :=
  ⟨r.hd, by have := r.dp; show A.depth + 3 * k + 5 < _; omega, by have := r.un; show A.units + 1 + 16 * k + 200 < _; omega⟩
theorem Room.depth {k : Nat} {A : Around} (r : Room k A) : A.depth < recursionLimit := by have := r.dp; omega
theorem Room.units {k : Nat} {A : Around} (r : Room k A) : A.units + 64 < cLine := by have := r.un; omega
def tNil : TA := fun _ H Q => Q [] H
def tCons (ta : TE) (tr : TA) : TA := fun σ H Q => ta σ H fun x H1 => tr σ H1 fun xs H2 => Q (x :: xs) H2
section
variable {X : Cx} {e : Expr} {es : List Expr} {te : TE} {t : TA} {pos : Pos}
theorem fQ : PA X [] tNil := fun _ _ _ _ H Q I h => Calls.spliced_nil ⟨[], H, I, .nil, h⟩
theorem aQ (ha : PE X e te) (hr : PA X es t) (hs : starEach (e :: es) X.env = (false, eval e X.env) :: starEach es X.env := by rfl) : PA X (e :: es) (tCons te t) := by
  intro pos pins s σ H Q I h
  rw [hs]
  show wpAny _ _ (spliced ((false, eval e X.env) :: backTo pos (starEach es X.env))) _ _ s
  refine Calls.spliced_cons (thn (ha pins s σ H _ I h) fun u s1 hh => ?_)
  obtain ⟨x, H1, I1, r1, q1⟩ := hh
  exact thn (hr pos pins s1 σ H1 _ I1 q1) fun us s2 ⟨xs, H2, I2, r2, q2⟩ => ⟨x :: xs, H2, I2, .cons r1 r2, q2⟩
def tTup (t : TA) : TE := fun σ H Q => t σ H fun xs H1 => xs.length <= sizeLine /\ ∀ p, H1 p = none -> Q (.ref p) (upd H1 p (.tup xs))
def tLst (t : TA) : TE := fun σ H Q => t σ H fun xs H1 => xs.length <= sizeLine /\ ∀ p, H1 p = none -> Q (.ref p) (upd H1 p (.lst xs))
theorem bX {x1} (h : PA X es t) : PE X (.Tuple es x1 pos) (tTup t) := by
  intro pins s σ H Q I hq
  refine wpAny_Tuple_spliced (thn (h pos pins s σ H _ I hq) fun us s1 ⟨xs, H1, I1, r, z, q⟩ => ⟨by rw [<- r.length]; exact z, ?_⟩)
  have hf : H1 s1.heap.objs.size = none := I1.hok.fresh (Nat.le_refl _)
  refine ⟨.ref s1.heap.objs.size, upd H1 s1.heap.objs.size (.tup xs), I1.laid (t' := s1.toks) (fun b u e => Heap.get?_push_of_some _ e) (Nat.le_refl _) ?_, rfl, q _ hf⟩
  exact ⟨z, us, r, ⟨_, Heap.get?_push_size _ rfl, rfl, _, rfl⟩⟩
theorem kZ (h : PA X es t) : PE X (.List es pos) (tLst t) := by
  intro pins s σ H Q I hq
  refine wpAny_List_spliced (thn (h pos pins s σ H _ I hq) fun us s1 ⟨xs, H1, I1, r, z, q⟩ => ⟨by rw [<- r.length]; exact z, ?_⟩)
  have hf : H1 s1.heap.objs.size = none := I1.hok.fresh (Nat.le_refl _)
  refine ⟨.ref s1.heap.objs.size, upd H1 s1.heap.objs.size (.lst xs), I1.laid (t' := s1.toks) (fun b u e => Heap.get?_push_of_some _ e) (Nat.le_refl _) ?_, rfl, q _ hf⟩
  exact ⟨z, us, 0, r, Heap.get?_push_size _ rfl⟩
end
abbrev Sp := List V -> Hp -> VK -> XK -> Prop
abbrev CXT := List Env -> Hp -> Shared -> XK -> Value -> Shared -> Prop
structure Env0 (P : Program) (w : World) (K : PySem.W.Frag) (mg : Str -> Option Value) (base : Heap) (A : Around) (outer : List Env) (s : Shared) (H : Hp) : Prop where
  frames : A.frames = some outer
  mod : Mod K mg base
  bs : ∀ b o, base.get? b = some o -> s.heap.get? b = some o /\ H b = none
  bsz : base.objs.size <= s.heap.objs.size
  funs : s.heap.FunFrames base outer
  frf : ∀ b ∈ frs outer, H b = none
  hok : HOk P w H s.heap
  bare : AllBare s.gens
def CE (outer : List Env) (P : Program) (w : World) (H : Hp) (s : Shared) (Q : VK) (u : Value) (s' : Shared) : Prop :=
  ∃ v H', s'.os = s.os /\ AllBare s'.gens /\ Un (frs outer) [] H H' s.heap s'.heap /\ HOk P w H' s'.heap /\ RelV v u /\ Q v H'
def CR (CX : CXT) (outer : List Env) (P : Program) (w : World) (H : Hp) (s : Shared) (Q : VK) (E : XK) (r : Result) (s' : Shared) : Prop :=
  match r with
  | .ok (.ret u) => CE outer P w H s Q u s'
  | .ok _ => False
  | .error e => CX outer H s E e s'
structure FnOk (P : Program) (w : World) (K : PySem.W.Frag) (mg : Str -> Option Value) (base : Heap) (CX : CXT) (k : Nat) (f : Addr) (fd : FuncData) (ps : List Str) (sp : Sp) : Prop where
  len : ∀ vs H Q E, sp vs H Q E -> vs.length = ps.length
  run : ∀ (A : Around) (outer : List Env) (s : Shared) (H : Hp) (args : Args) (us : List Value) (vs : List V) (Q : VK) (E : XK), Room k A -> Env0 P w K mg base A outer s H -> BindsTo s fd args (ps.zip us) -> Vals vs us -> sp vs H Q E ->
    codeAny (model P w) A (.call (.ref f) args) (CR CX outer P w H s Q E) s
theorem FnOk.mono {P : Program} {w : World} {K : PySem.W.Frag} {mg : Str -> Option Value} {base : Heap} {CX : CXT} {j k : Nat} {f : Addr} {fd : FuncData} {ps : List Str} {sp : Sp} (F : FnOk P w K mg base CX j f fd ps sp) (h : j <= k) :
    FnOk P w K mg base CX k f fd ps sp := ⟨F.len, fun A outer s H args us vs Q E hr => F.run A outer s H args us vs Q E (hr.mono h)⟩
theorem FnOk.imp {P : Program} {w : World} {K : PySem.W.Frag} {mg : Str -> Option Value} {base : Heap} {CX : CXT} {k : Nat} {f : Addr} {fd : FuncData} {ps : List Str} {sp sp' : Sp} (F : FnOk P w K mg base CX k f fd ps sp)
    (h : ∀ vs H Q E, sp' vs H Q E -> sp vs H Q E) : FnOk P w K mg base CX k f fd ps sp' :=
  ⟨fun vs H Q E q => F.len vs H Q E (h _ _ _ _ q), fun A outer s H args us vs Q E hr he hb hv hs => F.run A outer s H args us vs Q E hr he hb hv (h _ _ _ _ hs)⟩
theorem Env0.in1 {P : Program} {w : World} {K : PySem.W.Frag} {mg : Str -> Option Value} {base : Heap} {A : Around} {outer : List Env} {s : Shared} {H : Hp} (e : Env0 P w K mg base A outer s H) :
    Env0 P w K mg base A.in1 outer s H := ⟨e.frames, e.mod, e.bs, e.bsz, e.funs, e.frf, e.hok, e.bare⟩
section
variable {X : Cx} {pins : List (Addr × Obj)} {σ : St} {H : Hp} {s s' : Shared}
theorem Inv.env0 (I : Inv X pins σ H s) : Env0 X.prog X.w X.K X.mg X.base X.A X.stack s H :=
  ⟨I.ok.frames, I.ok.mod, I.bs, Nat.le_trans I.ok.bsz I.sz, I.stack, I.stkFree, I.hok, I.bare⟩
theorem Inv.after {Q : VK} {u : Value} (I : Inv X pins σ H s) (h : CE X.stack X.prog X.w H s Q u s') : EP X pins σ Q u s' := by
  obtain ⟨v, H', os, bare, un, hok, r, q⟩ := h
  obtain ⟨hh, g, d, t, os'⟩ := s'
  obtain rfl : os' = s.os := os
  exact ⟨v, H', I.call (h' := hh) (g' := g) (d' := d) (t' := t) (ch := []) un hok bare (fun b z => absurd z (by simp)), r, q⟩
end
def tCall (sp : Sp) (dvs : List V) (E : XK) (t : TA) : TE := fun σ H Q => t σ H fun vs H1 => sp (vs ++ dvs) H1 Q E
def Binds (K : PySem.W.Frag) (fd : FuncData) (ps : List Str) (ds : List Value) : Prop :=
  ∀ (s : Shared) (us : List Value), K.In s.heap -> (us ++ ds).length = ps.length -> BindsTo s fd ⟨us, []⟩ (ps.zip (us ++ ds))
theorem Binds.all {K : PySem.W.Frag} {fd : FuncData} {ps : List Str} (h : ∀ us : List Value, us.length = ps.length -> bindArgs fd ⟨us, []⟩ = pure (ps.zip us)) : Binds K fd ps [] := fun s us _ hl => by
  rw [List.append_nil] at hl ⊢
  exact .of_eq (h us hl)
def Passes (CX : CXT) (X : Cx) (E : XK) : Prop := ∀ (pins : List (Addr × Obj)) (σ : St) (H : Hp) (s : Shared) (e : Value) (s' : Shared), Inv X pins σ H s -> CX X.stack H s E e s' -> X.xe e s'
section
variable {X : Cx} {CX : CXT} {k : Nat} {f C : Addr} {fd : FuncData} {ps : List Str} {sp : Sp} {dvs : List V} {ds : List Value} {E : XK} {x m : Str} {p pos apos : Pos} {e o : Expr} {es : List Expr} {ta : TE} {t : TA}
theorem run_fn {pins : List (Addr × Obj)} {σ : St} {H : Hp} {s : Shared} {Q : VK} {us : List Value} {vs : List V} (F : FnOk X.prog X.w X.K X.mg X.base CX k f fd ps sp) (hr : Room k X.A) (hb : Binds X.K fd ps ds) (hd : Vals dvs ds) (hx : Passes CX X E)
    (I : Inv X pins σ H s) (r : Vals vs us) (h : sp (vs ++ dvs) H Q E) : wpAny (model X.prog X.w) X.A (call (.ref f) us) (EP X pins σ Q) X.xe s := by
  have r2 : Vals (vs ++ dvs) (us ++ ds) := r.append hd
  have hl : (us ++ ds).length = ps.length := by rw [<- r2.length]; exact F.len _ _ _ _ h
  refine wpAny_call (codeAny_mono (F.run X.A X.stack s H ⟨us, []⟩ (us ++ ds) (vs ++ dvs) Q E hr I.env0 (hb s us I.kIn hl) r2 h) fun r s' hq => ?_)
  cases r with
  | error e => exact hx pins σ H s e s' I hq
  | ok fl =>
    cases fl with
    | ret u => exact I.after hq
    | next => exact False.elim hq
    | brk => exact False.elim hq
    | cont => exact False.elim hq
theorem pe_call (F : FnOk X.prog X.w X.K X.mg X.base CX k f fd ps sp) (hr : Room k X.A) (hg : Gl X x) (hm : X.mg x = some (.ref f)) (hk : PySem.W.keepIn X.K (.ref f) = true) (hb : Binds X.K fd ps ds) (hd : Vals dvs ds) (hx : Passes CX X E)
    (ha : PA X (e :: es) t) (hdb : (x == ("__debug__" : Str)) = false := by decide) (he : starEach (e :: es) X.env = (false, eval e X.env) :: starEach es X.env := by rfl) (hpl : (backTo pos (starEach es X.env)).any (·.1) = false := by rfl) :
    PE X (.Call (.Name x p) (e :: es) [] pos) (tCall sp dvs E t) := by
  intro pins s σ H Q I h
  refine wpAny_Call_Name_kw (bW I hg hm ?_ hdb)
  refine PySem.W.callWith_K (h₀ := X.base) I.ok.mod.kin hk (thn (ha pos pins s σ H _ I h) fun us s1 ⟨vs, H1, I1, r, q⟩ => ⟨I1.kIn, ?_⟩) he hpl
  exact run_fn F hr hb hd hx I1 r q
end
section
variable {X : Cx} {CX : CXT} {k : Nat} {f C : Addr} {fd : FuncData} {ps ks : List Str} {sp : Sp} {E : XK} {x m : Str} {p pos apos kpos : Pos} {e o : Expr} {es : List Expr} {kws : List Keyword} {te ta : TE} {t tk : TA} {nm : Option Str}
variable {g : List Value -> List Value -> List Value} {gV : List V -> List V -> List V}
end
structure FnScope (N P : List Str) (sc : Scope) : Prop where
  kind : sc.kind = .function
  co : sc.isCoroutine = false
  gen : sc.isGenerator = false
  nd : N.Nodup
  pre : N.take P.length = P
  par : ∀ x ∈ P, sc.names.lookup x = some .local \/ sc.names.lookup x = some .cell
  nofree : ∀ y ∈ sc.names, y.2 ≠ .free
theorem iY {kindOf : Str -> Option NameKind} {x : Str} : ∀ {binds : List (Str × Value)} {m : Str -> Option Value}, (∀ v, (x, v) ∉ binds) -> bindL kindOf binds m x = m x
  | [], _, _ => rfl
  | (n, v) :: r, m, h => by
    unfold bindL
    rw [iY fun w hw => h w (List.mem_cons_of_mem _ hw)]
    split
    . have : x ≠ n := by rintro rfl; exact h v List.mem_cons_self
      simp [this]
    . rfl
theorem jY {kindOf : Str -> Option NameKind} {x : Str} : ∀ {binds : List (Str × Value)} {m : Str -> Option Value}, (∀ v, (x, v) ∉ binds) -> bindC kindOf binds m x = m x
  | [], _, _ => rfl
  | (n, v) :: r, m, h => by
    unfold bindC
    rw [jY fun w hw => h w (List.mem_cons_of_mem _ hw)]
    split
    . rfl
    . have : x ≠ n := by rintro rfl; exact h v List.mem_cons_self
      simp [this]
theorem kY {kindOf : Str -> Option NameKind} {x : Str} {v : Value} : ∀ {P : List Str} {vs : List Value} {i : Nat} {m : Str -> Option Value}, P.Nodup -> P[i]? = some x -> vs[i]? = some v -> kindOf x = some .local ->
    bindL kindOf (P.zip vs) m x = some v
  | [], _, _, _, _, h, _, _ => by simp at h
  | _ :: _, [], _, _, _, _, h, _ => by simp at h
  | p :: P, w :: vs, 0, m, nd, h1, h2, hk => by
    simp at h1 h2; subst h1; subst h2
    show bindL kindOf ((p, w) :: P.zip vs) m p = _
    unfold bindL
    rw [iY fun v hv => (List.nodup_cons.mp nd).1 (List.of_mem_zip hv).1, if_pos hk]
    simp
  | p :: P, w :: vs, i + 1, m, nd, h1, h2, hk => by
    show bindL kindOf ((p, w) :: P.zip vs) m x = _
    unfold bindL
    exact kY (i := i) (List.nodup_cons.mp nd).2 (by simpa using h1) (by simpa using h2) hk
theorem lY {kindOf : Str -> Option NameKind} {x : Str} {v : Value} : ∀ {P : List Str} {vs : List Value} {i : Nat} {m : Str -> Option Value}, P.Nodup -> P[i]? = some x -> vs[i]? = some v -> kindOf x ≠ some .local ->
    bindC kindOf (P.zip vs) m x = some v
  | [], _, _, _, _, h, _, _ => by simp at h
  | _ :: _, [], _, _, _, _, h, _ => by simp at h
  | p :: P, w :: vs, 0, m, nd, h1, h2, hk => by
    simp at h1 h2; subst h1; subst h2
    show bindC kindOf ((p, w) :: P.zip vs) m p = _
    unfold bindC
    rw [jY fun v hv => (List.nodup_cons.mp nd).1 (List.of_mem_zip hv).1, if_neg hk]
    simp
  | p :: P, w :: vs, i + 1, m, nd, h1, h2, hk => by
    show bindC kindOf ((p, w) :: P.zip vs) m x = _
    unfold bindC
    exact lY (i := i) (List.nodup_cons.mp nd).2 (by simpa using h1) (by simpa using h2) hk
def start (N : List Str) (vs : List V) : St := vs.map some ++ List.replicate (N.length - vs.length) none
def cxOf (CX : CXT) (P : Program) (w : World) (K : PySem.W.Frag) (mg : Str -> Option Value) (base : Heap) (N : List Str) (qual : Str) (scope : Scope) (f : Addr) (cd : Value) (A : Around) (outer : List Env) (s : Shared) (H : Hp) (E : XK) : Cx where
  prog := P
  w := w
  K := K
  mg := mg
  base := base
  A := A.deeper (envOfC qual scope s.heap.objs.size f cd)
  N := N
  s₀ := s
  H₀ := H
  env := envOfC qual scope s.heap.objs.size f cd
  outer := outer
  stack := envOfC qual scope s.heap.objs.size f cd :: outer
  ex := []
  calm := true
  fn := fun _ => true
  pn := []
  xe := fun e s' => wpAny (model P w) (A.deeper (envOfC qual scope s.heap.objs.size f cd)) (leaving (envOfC qual scope s.heap.objs.size f cd) e) (fun _ s'' => CX outer H s E e s'') (fun e' s'' => CX outer H s E e' s'') s'
theorem sK {sc : Scope} {n : Nat} {x : Str} (h : sc.names.lookup x = some .cell) : ∃ c, (cellsFrom n sc.names []).lookup x = some c := by
  have q := PySem.W.cellsFrom_some sc.names n [] (.inl h)
  exact Option.isSome_iff_exists.mp q
theorem inv_start {CX : CXT} {P : Program} {w : World} {K : PySem.W.Frag} {mg : Str -> Option Value} {base : Heap} {N ps : List Str} {qual : Str} {scope : Scope} {f : Addr} {cd : Value} {A : Around} {outer : List Env} {s s1 : Shared} {H : Hp} {E : XK} {us : List Value} {vs : List V}
    (S : FnScope N ps scope) (hd : A.handled = none) (e0 : Env0 P w K mg base A outer s H) (hl : vs.length = ps.length) (r : Vals vs us)
    (x : InCallC s s.heap.objs.size (bindL (envOfC qual scope s.heap.objs.size f cd).kindOf (ps.zip us) fun _ => none) (cellsFrom (s.heap.objs.size + 1) scope.names []) (bindC (envOfC qual scope s.heap.objs.size f cd).kindOf (ps.zip us) fun _ => none) s1) :
    Inv (cxOf CX P w K mg base N qual scope f cd A outer s H E) [] (start N vs) H s1 := by
  have hpl : ps.length <= N.length := by have := congrArg List.length S.pre; rw [List.length_take] at this; omega
  obtain ⟨h1, tk, rfl, hk⟩ := x.done
  have noA : ∀ b : Addr, b ∉ (cxOf CX P w K mg base N qual scope f cd A outer s H E).ex := fun b z => absurd (show b ∈ ([] : List Addr) from z) (by simp)
  refine ⟨⟨e0.mod, S.kind, rfl, rfl, Nat.le_refl _, fun y z c h1 h2 => ?_, fun y hy => ?_, fun y c _ h => ?_, fun _ => hd, Around.frames_deeper e0.frames, .inr ⟨rfl, rfl⟩, fun b z => absurd z (noA b), e0.bs, e0.bsz, fun b _ _ => noA b, fun b z => absurd z (noA b), e0.funs, e0.frf⟩,
    rfl, e0.bare, Un.kept hk, ⟨_, x.toInCall.ns, fun i y v h1 h2 h3 => ?_⟩, fun y c h => ⟨_, x.cell y c h⟩, e0.hok.fresh (Nat.le_refl _), fun y c h => ?_, fun p hp => absurd (show p ∈ ([] : List (Addr × Obj)) from hp) (by simp), e0.hok.kept hk, ?_⟩
  . exact name_of_addr x.apart (PySem.mem_of_lookup h1) (PySem.mem_of_lookup h2)
  . have hy : scope.names.lookup y = some .cell \/ scope.names.lookup y = some .free := hy
    rcases hy with hy | hy
    . exact sK hy
    . exact absurd rfl (S.nofree _ (PySem.mem_of_lookup hy))
  . exact Nat.le_of_lt (x.above y c (PySem.mem_of_lookup h))
  . have hi : i < vs.length := by
      unfold start at h2
      by_cases hi : i < vs.length
      . exact hi
      . rw [List.getElem?_append_right (by simpa using hi)] at h2
        rw [List.getElem?_replicate] at h2
        split at h2 <;> cases h2
    have ha : vs[i]? = some v := by
      unfold start at h2
      rw [List.getElem?_append_left (by simpa using hi), List.getElem?_map] at h2
      cases e : vs[i]? with
      | none => rw [e] at h2; cases h2
      | some a => rw [e] at h2; cases h2; rfl
    obtain ⟨u, hu, rv⟩ := r.get ha
    have hp : ps[i]? = some y := by
      rw [<- S.pre, List.getElem?_take_of_lt (by omega)]; exact h1
    have ndP : ps.Nodup := by rw [<- S.pre]; exact S.nd.sublist (List.take_sublist _ _)
    refine ⟨u, rv, ?_⟩
    rcases S.par y (List.mem_of_getElem? hp) with k | k
    . exact .inl ⟨k, kY ndP hp hu k⟩
    . obtain ⟨c, e⟩ := sK (n := s.heap.objs.size + 1) k
      refine .inr ⟨.inl k, c, e, ?_⟩
      have q := x.cell y c e
      rw [lY ndP hp hu (by show scope.names.lookup y ≠ _; rw [k]; decide)] at q
      exact q
  . exact e0.hok.fresh (Nat.le_of_lt (x.above y c (PySem.mem_of_lookup h)))
  . unfold start
    show _ = N.length
    rw [List.length_append, List.length_map, List.length_replicate]
    omega
theorem fn_of {CX : CXT} {P : Program} {w : World} {K : PySem.W.Frag} {mg : Str -> Option Value} {base : Heap} {k : Nat} {f : Addr} {name qual : Str} {params : Arguments} {body : List Stmt} {scope : Scope} {dV kV doc pm cdv ct oc : Value} {an od : Option Addr}
    {osl : Array (Option Value)} {N ps : List Str} {sp : Sp} (lk : K.lookup f = some ⟨oc, od, .func (PySem.W.fnOf name qual params body scope dV kV doc pm an cdv ct), osl⟩) (hcd : PySem.W.codeIn K cdv qual = true) (S : FnScope N ps scope)
    (len : ∀ vs H Q E, sp vs H Q E -> vs.length = ps.length)
    (hbody : ∀ (A : Around) (outer : List Env) (s : Shared) (H : Hp) (vs : List V) (Q : VK) (E : XK), Room k (A.deeper (envOfC qual scope s.heap.objs.size f cdv)) -> sp vs H Q E ->
      ∃ t, PSs (cxOf CX P w K mg base N qual scope f cdv A outer s H E) body t /\ t { nx := fun _ H' => Q .non H', rt := Q } (start N vs) H) :
    FnOk P w K mg base CX (k + 1) f (PySem.W.fnOf name qual params body scope dV kV doc pm an cdv ct) ps sp := by
  refine ⟨len, fun A outer s H args us vs Q E hr e0 hb r hsp => ?_⟩
  have hl := len _ _ _ _ hsp
  have KX : K.In s.heap := e0.mod.kin.keeps fun b o e => (e0.bs b o e).1
  have lim : s.heap.NoLimit := e0.mod.nolimit.keeps fun b o e => (e0.bs b o e).1
  have hkind : ∀ y ∈ ps.zip us, scope.names.lookup y.1 = some .local \/ (scope.names.lookup y.1 = some .cell /\ ((cellsFrom (s.heap.objs.size + 1) scope.names []).lookup y.1).isSome = true) := fun ⟨n, v⟩ hy => by
    rcases S.par n (List.of_mem_zip hy).1 with q | q
    . exact .inl q
    . exact .inr ⟨q, PySem.W.cellsFrom_some _ _ _ (.inl q)⟩
  refine codeAny_call_function hr.depth (KX _ _ lk) rfl S.co S.gen rfl (PySem.W.codeRec_of KX hcd) (hb _ _ _ _ ?_)
  refine wpAny_newFunctionEnv_cells S.kind hkind fun env he s1 x => ?_
  subst he
  refine ⟨lim.keeps x.toInCall.keep, codeAny_func ?_⟩
  obtain ⟨t, ht, hq⟩ := hbody A outer s H vs Q E (hr.deeper _) hsp
  have I : Inv (cxOf CX P w K mg base N qual scope f cdv A outer s H E) [] (start N vs) H s1 := inv_start S hr.hd e0 hl r x
  refine wpAny_mono (ht [] s1 (start N vs) H _ I hq) (fun fl s' hs => ?_) fun e s' hs => hs
  have fin : ∀ {σ' : St} {H' : Hp} {v : V} {u : Value}, Inv (cxOf CX P w K mg base N qual scope f cdv A outer s H E) [] σ' H' s' -> RelV v u -> Q v H' -> CE outer P w H s Q u s' :=
    fun {σ' H' v u} J rv q => ⟨v, H', J.os, J.bare, J.base, J.hok, rv, q⟩
  cases fl with
  | ret u =>
    obtain ⟨v, σ', H', J, rv, q⟩ := hs
    exact fin J rv q
  | next =>
    obtain ⟨σ', H', J, q⟩ := hs
    exact fin (v := V.non) (u := Value.none) J rfl q
  | brk =>
    obtain ⟨_, _, _, q⟩ := hs
    exact False.elim q
  | cont =>
    obtain ⟨_, _, _, q⟩ := hs
    exact False.elim q
end L2
namespace L2
open PySem PySem.Spec PyProof.Rows
section
variable {X : Cx} {x : Str} {p pos : Pos} {e : Expr} {es : List Expr} {t : TA} {id T : String} {r : List V -> Hp -> VK -> Prop}
def tCB (r : List V -> Hp -> VK -> Prop) (t : TA) : TE := fun σ H Q => t σ H fun vs H1 => r vs H1 Q
theorem cZ (hc : CallR X (.builtin id) r) (hg : Gl X x) (hm : X.mg x = none) (hv : bootBuiltins x = some (.builtin id)) (ha : PA X (e :: es) t) (hn : x ≠ "__name__" := by decide) (hdb : (x == ("__debug__" : Str)) = false := by decide)
    (he : starEach (e :: es) X.env = (false, eval e X.env) :: starEach es X.env := by rfl) (hpl : (backTo pos (starEach es X.env)).any (·.1) = false := by rfl) : PE X (.Call (.Name x p) (e :: es) [] pos) (tCB r t) := by
  intro pins s σ H Q I h
  refine wpAny_Call_Name_kw (vW I hg hm hv ?_ hn hdb)
  exact PyProof.Rows.callWith_builtin1 (thn (ha pos pins s σ H _ I h) fun us s1 ⟨vs, H1, I1, r1, q1⟩ => hc pins s1 σ H1 vs us Q I1 r1 q1) he hpl
theorem iJ (hc : CallR X (.type T) r) (hg : Gl X x) (hm : X.mg x = none) (hv : bootBuiltins x = some (.type T)) (ha : PA X (e :: es) t) (hn : x ≠ "__name__" := by decide) (hdb : (x == ("__debug__" : Str)) = false := by decide)
    (he : starEach (e :: es) X.env = (false, eval e X.env) :: starEach es X.env := by rfl) (hpl : (backTo pos (starEach es X.env)).any (·.1) = false := by rfl) : PE X (.Call (.Name x p) (e :: es) [] pos) (tCB r t) := by
  intro pins s σ H Q I h
  refine wpAny_Call_Name_kw (vW I hg hm hv ?_ hn hdb)
  exact PyProof.Rows.callWith_type1 (thn (ha pos pins s σ H _ I h) fun us s1 ⟨vs, H1, I1, r1, q1⟩ => hc pins s1 σ H1 vs us Q I1 r1 q1) he hpl
end
end L2
namespace L2
open PySem PySem.Spec PyProof.Rows
section
variable {κ : Type} [DecidableEq κ]
def valV (kvs : List (κ × V)) (k : κ) : Option V := (kvs.find? fun kv => decide (kv.1 = k)).map (·.2)
def putK (kvs : List (κ × V)) (k : κ) (v : V) : List (κ × V) :=
  if (kvs.any fun kv => decide (kv.1 = k)) = true then kvs.map (fun kv => if kv.1 = k then (kv.1, v) else kv) else kvs ++ [(k, v)]
def dropK (kvs : List (κ × V)) (k : κ) : List (κ × V) := kvs.filter fun kv => decide (kv.1 ≠ k)
theorem sV {p : κ × V} {r : List (κ × V)} {k : κ} (e : p.1 = k) : valV (p :: r) k = some p.2 := by simp [valV, List.find?_cons, e]
theorem tV {p : κ × V} {r : List (κ × V)} {k : κ} (e : ¬ p.1 = k) : valV (p :: r) k = valV r k := by simp [valV, List.find?_cons, e]
theorem tK (k : κ) : ∀ kvs : List (κ × V), (kvs.any fun kv => decide (kv.1 = k)) = (valV kvs k).isSome
  | [] => rfl
  | p :: r => by
    rw [List.any_cons]
    by_cases e : p.1 = k
    . simp only [sV e, decide_eq_true e, Bool.true_or, Option.isSome_some]
    . rw [tV e, decide_eq_false e, Bool.false_or]; exact tK k r
theorem RelO.isSome_eq {o : Option V} {u : Option Value} (r : RelO o u) : o.isSome = u.isSome := by
  cases o with
  | none => cases u with
    | none => rfl
    | some _ => exact (show False from r).elim
  | some _ => cases u with
    | none => exact (show False from r).elim
    | some _ => rfl
theorem RelO.getD {o : Option V} {u : Option Value} {d : V} {d' : Value} (r : RelO o u) (rd : RelV d d') : RelV (o.getD d) (u.getD d') := by
  cases o with
  | none => cases u with
    | none => exact rd
    | some _ => exact (show False from r).elim
  | some _ => cases u with
    | none => exact (show False from r).elim
    | some _ => exact r
theorem KV.val {kvs : List (κ × V)} {vs : List (κ × Value)} (r : KV kvs vs) (k : κ) : RelO (valV kvs k) (valueAt vs k) := by
  unfold KV at r
  induction r with
  | nil => exact True.intro
  | @cons p q ps qs h t ih =>
    obtain ⟨h1, h2⟩ := h
    by_cases e : p.1 = k
    . have e' : q.1 = k := h1.symm.trans e
      have b : valueAt (q :: qs) k = some q.2 := by simp [valueAt, List.find?_cons, e']
      rw [sV e, b]; exact h2
    . have e' : ¬ q.1 = k := fun z => e (h1.trans z)
      have b : valueAt (q :: qs) k = valueAt qs k := by simp [valueAt, List.find?_cons, e']
      rw [tV e, b]; exact ih
theorem KV.any {kvs : List (κ × V)} {vs : List (κ × Value)} (r : KV kvs vs) (k : κ) : (kvs.any fun kv => decide (kv.1 = k)) = vs.any fun kv => decide (kv.1 = k) := by
  unfold KV at r
  induction r with
  | nil => rfl
  | cons h t ih => rw [List.any_cons, List.any_cons, ih, h.1]
theorem KV.repl {kvs : List (κ × V)} {vs : List (κ × Value)} (r : KV kvs vs) (k : κ) {y : V} {u : Value} (ry : RelV y u) :
    KV (kvs.map fun kv => if kv.1 = k then (kv.1, y) else kv) (vs.map fun kv => if kv.1 = k then (kv.1, u) else kv) := by
  unfold KV at r ⊢
  induction r with
  | nil => exact .nil
  | @cons p q ps qs h t ih =>
    rw [List.map_cons, List.map_cons]
    refine .cons ?_ ih
    obtain ⟨h1, h2⟩ := h
    by_cases e : p.1 = k
    . rw [if_pos e, if_pos (h1.symm.trans e)]; exact ⟨h1, ry⟩
    . rw [if_neg e, if_neg (fun z => e (h1.trans z))]; exact ⟨h1, h2⟩
theorem KV.put {kvs : List (κ × V)} {vs : List (κ × Value)} (r : KV kvs vs) (k : κ) {y : V} {u : Value} (ry : RelV y u) : KV (putK kvs k y) (stored vs k u) := by
  unfold putK stored
  rw [r.any k]
  by_cases e : (vs.any fun kv => decide (kv.1 = k)) = true
  . rw [if_pos e, if_pos e]; exact r.repl k ry
  . rw [if_neg e, if_neg e]; exact Paired.snoc r ⟨rfl, ry⟩
theorem KV.drop {kvs : List (κ × V)} {vs : List (κ × Value)} (r : KV kvs vs) (k : κ) : KV (dropK kvs k) (without vs k) := by
  unfold KV at r ⊢
  unfold dropK without
  induction r with
  | nil => exact .nil
  | @cons p q ps qs h t ih =>
    obtain ⟨h1, h2⟩ := h
    rw [List.filter_cons, List.filter_cons]
    by_cases e : p.1 = k
    . have a : ¬ decide (p.1 ≠ k) = true := by simp [e]
      have b : ¬ decide (q.1 ≠ k) = true := by simp [h1.symm.trans e]
      rw [if_neg a, if_neg b]; exact ih
    . have e' : ¬ q.1 = k := fun z => e (h1.trans z)
      have a : decide (p.1 ≠ k) = true := by simp [e]
      have b : decide (q.1 ≠ k) = true := by simp [e']
      rw [if_pos a, if_pos b]; exact .cons ⟨h1, h2⟩ ih
theorem KV.keys {kvs : List (κ × V)} {vs : List (κ × Value)} (r : KV kvs vs) : kvs.map (·.1) = vs.map (·.1) := by
  unfold KV at r
  induction r with
  | nil => rfl
  | cons h t ih => rw [List.map_cons, List.map_cons, ih, h.1]
theorem KV.length {kvs : List (κ × V)} {vs : List (κ × Value)} (r : KV kvs vs) : kvs.length = vs.length := Paired.length r
end
theorem kV_is {P : Program} {w : World} {k : Key} {u : Value} (r : RelV (kV k) u) : (mixKind P w).is k u = true := by
  cases k with
  | inl i => obtain ⟨t, e⟩ := (show ∃ t, u = Value.int i t from r); subst e; exact nK P w i t
  | inr x => obtain ⟨t, e⟩ := (show ∃ t, u = Value.str x t from r); subst e; exact rJ P w x t
abbrev KT (H : Hp) : List (List Key × V) -> List (List Key × Addr × Value) -> Prop := Paired fun p q => p.1 = q.1 /\ H q.2.1 = some (.tup (p.1.map kV)) /\ RelV p.2 q.2.2
theorem KT.val {H : Hp} {kvs : List (List Key × V)} {xs : List (List Key × Addr × Value)} (r : KT H kvs xs) (k : List Key) : RelO (valV kvs k) ((atKey xs k).map (·.2)) := by
  induction r with
  | nil => exact True.intro
  | @cons p q ps qs h t ih =>
    obtain ⟨h1, _, h2⟩ := h
    by_cases e : p.1 = k
    . have e' : q.1 = k := h1.symm.trans e
      have b : atKey (q :: qs) k = some q.2 := by simp [atKey, List.find?_cons, e']
      rw [sV e, b]; exact h2
    . have e' : ¬ q.1 = k := fun z => e (h1.trans z)
      have b : atKey (q :: qs) k = atKey qs k := by simp [atKey, List.find?_cons, e']
      rw [tV e, b]; exact ih
theorem KT.repl {H : Hp} {kvs : List (List Key × V)} {xs : List (List Key × Addr × Value)} (r : KT H kvs xs) (k : List Key) {y : V} {u : Value} (ry : RelV y u) :
    KT H (kvs.map fun kv => if kv.1 = k then (kv.1, y) else kv) (xs.map (putAt k u)) := by
  induction r with
  | nil => exact .nil
  | @cons p q ps qs h t ih =>
    rw [List.map_cons, List.map_cons]
    refine .cons ?_ ih
    obtain ⟨h1, h2, h3⟩ := h
    unfold putAt
    by_cases e : p.1 = k
    . rw [if_pos e, if_pos (h1.symm.trans e)]; exact ⟨h1, h2, ry⟩
    . rw [if_neg e, if_neg (fun z => e (h1.trans z))]; exact ⟨h1, h2, h3⟩
theorem KT.put {H : Hp} {kvs : List (List Key × V)} {xs : List (List Key × Addr × Value)} (r : KT H kvs xs) (k : List Key) {b : Addr} {y : V} {u : Value} (hb : H b = some (.tup (k.map kV))) (ry : RelV y u) :
    KT H (putK kvs k y) (storedH xs k b u) := by
  have e : (kvs.any fun kv => decide (kv.1 = k)) = (atKey xs k).isSome := by
    rw [tK, (r.val k).isSome_eq, Option.isSome_map]
  unfold putK storedH
  rw [e]
  by_cases q : (atKey xs k).isSome = true
  . rw [if_pos q, if_pos q]; exact r.repl k ry
  . rw [if_neg q, if_neg q]; exact Paired.snoc r ⟨rfl, hb, ry⟩
theorem KT.keeps {H H' : Hp} {kvs : List (List Key × V)} {xs : List (List Key × Addr × Value)} (r : KT H kvs xs) (ht : ∀ b ys, H b = some (.tup ys) -> H' b = some (.tup ys)) : KT H' kvs xs :=
  Paired.mapP r fun _ _ z => ⟨z.1, ht _ _ z.2.1, z.2.2⟩
section
variable {P : Program} {w : World} {H : Hp} {h : Heap} {a : Addr}
end
def DGet (H : Hp) (a : Addr) (y : V) (r : Option V) : Prop :=
  (∃ kvs k, Rd H a (.dK kvs) /\ y = kV k /\ r = valV kvs k) \/ ∃ kvs k b, Rd H a (.dT kvs) /\ y = .ref b /\ H b = some (.tup (k.map kV)) /\ r = valV kvs k
def DPut (H : Hp) (a : Addr) (y v : V) (H' : Hp) : Prop :=
  (∃ kvs k, H a = some (.dK kvs) /\ y = kV k /\ kvs.length < sizeLine /\ H' = upd H a (.dK (putK kvs k v))) \/
  ∃ kvs k b, H a = some (.dT kvs) /\ y = .ref b /\ H b = some (.tup (k.map kV)) /\ kvs.length < sizeLine /\ H' = upd H a (.dT (putK kvs k v))
theorem DGet.k {H : Hp} {a : Addr} {kvs : List (Key × V)} {k : Key} (e : H a = some (.dK kvs)) : DGet H a (kV k) (valV kvs k) := .inl ⟨kvs, k, .inl e, rfl, rfl⟩
theorem DGet.t {H : Hp} {a b : Addr} {kvs : List (List Key × V)} {k : List Key} (e : H a = some (.dT kvs)) (eb : H b = some (.tup (k.map kV))) : DGet H a (.ref b) (valV kvs k) := .inr ⟨kvs, k, b, .inl e, rfl, eb, rfl⟩
theorem DPut.k {H : Hp} {a : Addr} {kvs : List (Key × V)} {k : Key} {v : V} (e : H a = some (.dK kvs)) (hl : kvs.length < sizeLine) : DPut H a (kV k) v (upd H a (.dK (putK kvs k v))) := .inl ⟨kvs, k, e, rfl, hl, rfl⟩
theorem DPut.t {H : Hp} {a b : Addr} {kvs : List (List Key × V)} {k : List Key} {v : V} (e : H a = some (.dT kvs)) (eb : H b = some (.tup (k.map kV))) (hl : kvs.length < sizeLine) :
    DPut H a (.ref b) v (upd H a (.dT (putK kvs k v))) := .inr ⟨kvs, k, b, e, rfl, eb, hl, rfl⟩
section
variable {X : Cx} {pins : List (Addr × Obj)} {σ : St} {H : Hp} {s : Shared} {a : Addr} {y v : V} {u r : Value} {o : Option V} {A : Around} {E : Value -> Shared -> Prop}
end
section
variable {X : Cx} {pins : List (Addr × Obj)} {σ : St} {H : Hp} {s : Shared} {a : Addr} {kvs : List (Key × V)} {k : Key} {u : Value} {A : Around} {E : Value -> Shared -> Prop}
end
def NoSl (i : Expr) : Prop := ∀ ov iv, subscripted i false ov iv = operate [ov, iv] (getItem ov iv)
theorem sO {prog : Program} {w : World} {A : Around} {E : Value -> Shared -> Prop} {s : Shared} {env : Env} {value slice : Expr} {pos : Pos} {T id : String} {Q : Value -> Shared -> Prop}
    (hl : typeLookup (.type T) "__getitem__" = pure (some (.builtin id))) (hs : NoSl slice)
    (h : wpAny (model prog w) A (eval value env) (fun o s₁ => wpAny (model prog w) A (eval slice env) (fun i s₂ => s₂.TypeIs o T /\ wpAny (model prog w) A (getItem o i) Q E s₂) E s₁) E s) :
    wpAny (model prog w) A (eval (.Subscript value slice pos) env) Q E s := by
  refine Subscript_ (wpAny_mono h (fun o s₁ h₁ => wpAny_mono h₁ (fun i s₂ h₂ => ?_) fun _ _ x => x) fun _ _ x => x)
  obtain ⟨hT, h₂⟩ := h₂
  unfold subscriptTail
  refine wpAny_bind ?_
  rw [getitemInPython_of_ne hT.not_modules]
  refine wpAny_bind (wpAny_specialOf hT hl ?_)
  have fin : wpAny (model prog w) A (subscripted slice false o i) (fun r s₃ => wpAny (model prog w) A (letTemporaryGo value o r >>= fun _ => pure r) Q E s₃) E s₂ := by
    rw [hs o i]
    exact wpAny_operating (wpAny_mono h₂ (fun r s₃ h₃ => wpAny_bind (wpAny_letTemporaryGo (wpAny_pure h₃))) fun _ _ x => x)
  first
    | exact wpAny_pure (wpAny_bind fin)
    | exact wpAny_bind (wpAny_pure (wpAny_bind fin))
    | exact wpAny_bind fin
section
variable {X : Cx} {o i e value : Expr} {pos pos' tpos : Pos} {td ty tv : TE}
end
section
variable {X : Cx} {pos : Pos}
end
structure M1 (X : Cx) (o : Expr) (m : Str) (apos : Pos) (e : Expr) (cpos : Pos) : Prop where
  base : attributeBase o m X.env (eval o X.env) = eval o X.env
  few : ((backTo cpos (starEach [e] X.env)).all (fun x => !x.1) && (backToKw cpos (keywordEach [] X.env)).all (fun x => x.1.isSome)
    && decide (([e] : List Expr).length + ([] : List Keyword).length + (if ([] : List Keyword).isEmpty then 0 else 1) < 30)) = true
  line : (apos.endLine == cpos.line) = true
  trees : backTo cpos (starEach [e] X.env) = [(false, eval e X.env)]
section
variable {X : Cx} {pins : List (Addr × Obj)} {σ : St} {H : Hp} {s : Shared} {a : Addr} {y d : V} {u r : Value} {o : Option V} {A : Around} {E : Value -> Shared -> Prop}
end
section
variable {X : Cx} {o e f : Expr} {apos cpos : Pos} {td ty tx : TE}
end
section
variable {X : Cx} {pins : List (Addr × Obj)} {σ : St} {H : Hp} {s : Shared} {a : Addr} {kvs : List (Key × V)} {A : Around} {E : Value -> Shared -> Prop}
end
section
variable {X : Cx} {pins : List (Addr × Obj)} {σ : St} {H : Hp} {s : Shared} {a : Addr} {y : V} {u : Value} {A : Around} {E : Value -> Shared -> Prop}
end
end L2
namespace HT
open PySem PyProof.Rows
section
open PySem.SeqAt
open PySem.AutoSeq1 (wpAny_loadPart')
open PySem.MeetsSeq PySem.MeetsSeq2 PySem.MeetsSeq3
end
section
variable {prog : Program} {w : World} {A : Around} {E : Value -> Shared -> Prop} {s : Shared}
def sIx (n d : Nat) : Option Int -> Nat
  | none => d
  | some v => if v < 0 then (v + (n : Int)).toNat else min v.toNat n
end
end HT
namespace L2
open PySem PySem.Spec PyProof.Rows
abbrev TO := St -> Hp -> (Option Int -> Hp -> Prop) -> Prop
def PO (X : Cx) (e : Option Expr) (t : TO) : Prop :=
  ∀ (pins : List (Addr × Obj)) (s : Shared) (σ : St) (H : Hp) (Q : Option Int -> Hp -> Prop), Inv X pins σ H s -> t σ H Q ->
    wpAny (model X.prog X.w) X.A (evalPart e X.env) (fun u s' => ∃ o H', Inv X pins σ H' s' /\ IsPart u o /\ Q o H') X.xe s
def tNoPart : TO := fun _ H Q => Q none H
def tPart (t : TE) : TO := fun σ H Q => t σ H fun x H1 => ∃ i, x = .int i /\ Q (some i) H1
section
variable {X : Cx} {e : Expr} {te : TE} {lo hi : Option Expr} {tl th : TO} {pos p2 : Pos}
theorem kW : PO X none tNoPart := by
  intro pins s σ H Q I h
  rw [evalPart_none]
  exact wpAny_pure ⟨none, H, I, .none, h⟩
theorem lW (h : PE X e te) : PO X (some e) (tPart te) := by
  intro pins s σ H Q I hw
  rw [evalPart_some]
  refine thn (h pins s σ H _ I hw) fun u s1 hh => ?_
  obtain ⟨x, H1, I1, r1, q1⟩ := hh
  obtain ⟨i, rfl, q⟩ := q1
  obtain ⟨t, rfl⟩ := r1
  exact ⟨some i, H1, I1, .int i t, q⟩
def SlR (X : Cx) (r : V -> Option Int -> Option Int -> Hp -> VK -> Prop) : Prop :=
  ∀ (pins : List (Addr × Obj)) (s : Shared) (σ : St) (H : Hp) (x : V) (v vl vu : Value) (lo hi : Option Int) (sl : Addr) (Q : VK), Inv X pins σ H s -> RelV x v -> s.heap.IsSliceOf sl vl vu .none -> IsPart vl lo -> IsPart vu hi -> r x lo hi H Q ->
    ∃ T id, typeLookup (.type T) "__getitem__" = pure (some (.builtin id)) /\ s.TypeIs v T /\ wpAny (model X.prog X.w) X.A (getItem v (.ref sl)) (EP X pins σ Q) X.xe s
theorem SlR.or {r r' : V -> Option Int -> Option Int -> Hp -> VK -> Prop} (h : SlR X r) (h' : SlR X r') : SlR X (fun x lo hi H Q => r x lo hi H Q \/ r' x lo hi H Q) := by
  intro pins s σ H x v vl vu lo hi sl Q I rx hs pl pu q
  rcases q with q | q
  . exact h pins s σ H x v vl vu lo hi sl Q I rx hs pl pu q
  . exact h' pins s σ H x v vl vu lo hi sl Q I rx hs pl pu q
def tSl (r : V -> Option Int -> Option Int -> Hp -> VK -> Prop) (te : TE) (tl th : TO) : TE := fun σ H Q => te σ H fun x H1 => tl σ H1 fun l H2 => th σ H2 fun u H3 => r x l u H3 Q
theorem tJ {r : V -> Option Int -> Option Int -> Hp -> VK -> Prop} (hr : SlR X r) (he : PE X e te) (hl : PO X lo tl) (hu : PO X hi th) : PE X (.Subscript e (.Slice lo hi none p2) pos) (tSl r te tl th) := by
  intro pins s σ H Q I h
  refine Subscript_ (thn (he pins s σ H _ I h) fun v s1 hh => ?_)
  obtain ⟨x, H1, I1, r1, q1⟩ := hh
  refine wpAny_Slice (thn (hl pins s1 σ H1 _ I1 q1) fun vl s2 ⟨l, H2, I2, pl, q2⟩ => thn (hu pins s2 σ H2 _ I2 q2) fun vu s3 ⟨u, H3, I3, pu, q3⟩ => ?_)
  rw [evalPart_none]
  refine wpAny_pure ?_
  have I4 : Inv X pins σ H3 { s3 with heap := s3.heap.push { cls := .type "slice", data := .fields #[vl, vu, .none] } } := I3.kept (t' := s3.toks) fun b ob q => Heap.get?_push_of_some _ q
  obtain ⟨T, id, hT, ht, hg⟩ := hr pins { s3 with heap := s3.heap.push { cls := .type "slice", data := .fields #[vl, vu, .none] } } σ H3 x v vl vu l u s3.heap.objs.size Q I4 r1 (Heap.IsSliceOf.new ..) pl pu q3
  show wpAny (model X.prog X.w) X.A (subscriptTail e (.Slice lo hi none p2) v (.ref s3.heap.objs.size)) (EP X pins σ Q) X.xe { s3 with heap := s3.heap.push { cls := .type "slice", data := .fields #[vl, vu, .none] } }
  exact tail_any (ops := [.ref s3.heap.objs.size, v]) ht hT hg (by with_unfolding_all rfl)
def cutV (xs : List V) (lo hi : Option Int) : List V := (xs.drop (HT.sIx xs.length 0 lo)).take (HT.sIx xs.length xs.length hi - HT.sIx xs.length 0 lo)
theorem uK (xs : List V) (lo hi : Option Int) : (cutV xs lo hi).length <= xs.length := by
  unfold cutV
  rw [List.length_take, List.length_drop]
  omega
end
end L2
namespace L2
open PySem PySem.Spec PyProof.Rows
def ixN (n : Nat) (i : Int) : Option Nat := if 0 <= i then (if i < n then some i.toNat else none) else if -(n : Int) <= i then some (i + n).toNat else none
def atI {α : Type} (xs : List α) (i : Int) : Option α := (ixN xs.length i).bind fun j => xs[j]?
theorem tO {n : Nat} {i : Int} {j : Nat} (h : ixN n i = some j) : seqIndex? i n = some j /\ j < n /\ -(n : Int) <= i /\ i < n := by
  unfold ixN at h
  by_cases h0 : 0 <= i
  . rw [if_pos h0] at h
    by_cases h1 : i < n
    . rw [if_pos h1] at h
      have e : i.toNat = j := Option.some.inj h
      exact ⟨by rw [seqIndex_of h0 h1, e], by omega, by omega, h1⟩
    . rw [if_neg h1] at h; cases h
  . rw [if_neg h0] at h
    by_cases h1 : -(n : Int) <= i
    . rw [if_pos h1] at h
      have e : (i + n).toNat = j := Option.some.inj h
      exact ⟨by rw [seqIndex_neg (by omega) h1, e], by omega, h1, by omega⟩
    . rw [if_neg h1] at h; cases h
theorem uY {α : Type} {xs : List α} {i : Int} {v : α} (h : atI xs i = some v) : ∃ j, seqIndex? i xs.length = some j /\ xs[j]? = some v /\ j < xs.length /\ -(xs.length : Int) <= i /\ i < xs.length := by
  unfold atI at h
  cases e : ixN xs.length i with
  | none => rw [e] at h; cases h
  | some j =>
    rw [e] at h
    obtain ⟨h1, h2, h3, h4⟩ := tO e
    exact ⟨j, h1, h, h2, h3, h4⟩
theorem qZ {α : Type} {xs : List α} {j : Nat} {v : α} (h : xs[j]? = some v) : atI xs (j : Int) = some v := by
  have hj : j < xs.length := (List.getElem?_eq_some_iff.mp h).1
  have e : ixN xs.length (j : Int) = some j := by
    unfold ixN
    rw [if_pos (by omega), if_pos (by omega)]; simp
  unfold atI; rw [e]; exact h
def PlainIx (b : Expr) : Prop := ∀ o i, subscripted b false o i = operate [o, i] (getItem o i)
def IxR (X : Cx) (r : R2) : Prop :=
  ∀ (value slice : Expr) (pins : List (Addr × Obj)) (s : Shared) (σ : St) (H : Hp) (x y : V) (v u : Value) (Q : VK), Inv X pins σ H s -> RelV x v -> RelV y u -> r x y H Q ->
    subscripted slice false v u = operate [v, u] (getItem v u) -> wpAny (model X.prog X.w) X.A (subscriptTail value slice v u) (EP X pins σ Q) X.xe s
def MtR (X : Cx) (id : String) (r : V -> List V -> Hp -> VK -> Prop) : Prop :=
  ∀ (pins : List (Addr × Obj)) (s : Shared) (σ : St) (H : Hp) (x : V) (xs : List V) (v : Value) (us : List Value) (Q : VK), Inv X pins σ H s -> RelV x v -> Vals xs us -> r x xs H Q ->
    wpAny (model X.prog X.w) X.A (call (.builtin id) (v :: us)) (EP X pins σ Q) X.xe s
section
variable {X : Cx} {a b : Expr} {ta tb : TE} {pos : Pos}
theorem IxR.or {r r' : R2} (h : IxR X r) (h' : IxR X r') : IxR X (fun x y H Q => r x y H Q \/ r' x y H Q) := by
  intro value slice pins s σ H x y v u Q I rx ry q hs
  rcases q with q | q
  . exact h value slice pins s σ H x y v u Q I rx ry q hs
  . exact h' value slice pins s σ H x y v u Q I rx ry q hs
theorem MtR.or {id : String} {r r' : V -> List V -> Hp -> VK -> Prop} (h : MtR X id r) (h' : MtR X id r') : MtR X id (fun x xs H Q => r x xs H Q \/ r' x xs H Q) := by
  intro pins s σ H x xs v us Q I rx rs q
  rcases q with q | q
  . exact h pins s σ H x xs v us Q I rx rs q
  . exact h' pins s σ H x xs v us Q I rx rs q
theorem bZ {r : R2} (hr : IxR X r) (ha : PE X a ta) (hb : PE X b tb) (hs : PlainIx b) : PE X (.Subscript a b pos) (tOp r ta tb) := by
  intro pins s σ H Q I h
  exact Subscript_ (binT ha hb I h fun v u s2 x y H2 I2 rx ry q => hr a b pins s2 σ H2 x y v u Q I2 rx ry q (hs _ _))
def rIxL (K : PySem.W.Frag) : R2 := fun x y H Q => ∃ p xs i v, x = .ref p /\ y = .int i /\ SqL K H p xs /\ atI xs i = some v /\ Q v H
def rIxT (K : PySem.W.Frag) : R2 := fun x y H Q => ∃ p xs i v, x = .ref p /\ y = .int i /\ SqT K H p xs /\ atI xs i = some v /\ Q v H
def rIxS : R2 := fun x y H Q => ∃ z i c, x = .str z /\ y = .int i /\ z.length <= sizeLine /\ atI z.cps.toList i = some c /\ Q (.str ⟨#[c]⟩) H
theorem vQ : IxR X (rIxL X.K) := by
  intro value slice pins s σ H x y v u Q I rx ry h hs
  obtain ⟨p, xs, i, z, rfl, rfl, hq, he, q⟩ := h
  cases rx
  obtain ⟨t, rfl⟩ := ry
  obtain ⟨its, r, pl, hz⟩ := I.list hq
  obtain ⟨j, h1, h2, h3, h4, h5⟩ := uY he
  obtain ⟨w, ew, rw'⟩ := r.get h2
  have hl := r.length
  have hn := line63
  have fin : EP X pins σ Q w s := ⟨z, H, I, rw', q⟩
  by_cases h0 : 0 <= i
  . have hj : i.toNat = j := by
      rw [seqIndex_of h0 h5] at h1
      exact Option.some.inj h1
    exact item_listR pl.isList h0 (by omega) (by rw [hj]; simpa using ew) fin hs
  . have hj : (i + (its.toArray.size : Int)).toNat = j := by
      rw [seqIndex_neg (by omega) h4] at h1
      rw [List.size_toArray, <- hl]
      exact Option.some.inj h1
    exact subscriptTail_builtinR (x := w) pl.isList.typeIs slot_list_getitem.lookup
      (wpAny_getItem_list_neg (Q := fun r s' => r = w /\ EP X pins σ Q r s') pl.isList (by omega) (by rw [List.size_toArray] <;> omega) (by omega) (by rw [hj]; simpa using ew) ⟨rfl, fin⟩) hs
theorem xX : IxR X (rIxT X.K) := by
  intro value slice pins s σ H x y v u Q I rx ry h hs
  obtain ⟨p, xs, i, z, rfl, rfl, hq, he, q⟩ := h
  cases rx
  obtain ⟨t, rfl⟩ := ry
  obtain ⟨its, r, pl, hz⟩ := I.tuple hq
  obtain ⟨j, h1, h2, h3, h4, h5⟩ := uY he
  obtain ⟨w, ew, rw'⟩ := r.get h2
  have hl := r.length
  have hn := line63
  have fin : EP X pins σ Q w s := ⟨z, H, I, rw', q⟩
  exact subscriptTail_builtinR (x := w) pl.typeIs slot_tuple_getitem.lookup
    (getItem_tuple (j := j) (Q := fun r s' => r = w /\ EP X pins σ Q r s') pl (by omega) (by omega) (by rw [List.size_toArray, <- hl]; exact h1) (by simpa using ew) ⟨rfl, fin⟩) hs
theorem ix_str : IxR X rIxS := by
  intro value slice pins s σ H x y v u Q I rx ry h hs
  obtain ⟨z, i, c, rfl, rfl, hz, he, q⟩ := h
  obtain ⟨t, rfl⟩ := rx
  obtain ⟨t', rfl⟩ := ry
  obtain ⟨j, h1, h2, h3, h4, h5⟩ := uY he
  have hl : z.cps.toList.length = z.length := by simp [Str.length]
  rw [hl] at h1 h4 h5
  have hn := line63
  exact tail_any (typeIs_str s z t) slot_str_getitem.lookup (getItem_str (c := c) (by
    have e1 : decide (i < -(2 ^ 63 : Int)) = false := decide_eq_false (by omega)
    have e2 : decide (i ≥ 2 ^ 63) = false := decide_eq_false (by omega)
    rw [e1, e2, Bool.or_false]) (by rw [h1]; simpa using h2) ⟨.str ⟨#[c]⟩, H, I.tok _, ⟨_, rfl⟩, q⟩) hs
theorem vU (its : List Value) (n j : Nat) (u : Value) : Obj.mapSeq (·.setIfInBounds j u) { cls := .type "list", data := .seq its.toArray n } = { cls := .type "list", data := .seq (its.set j u).toArray n } := by
  simp [Obj.mapSeq]
theorem Inv.lst {pins : List (Addr × Obj)} {σ : St} {H : Hp} {s : Shared} {p : Addr} {xs : List V} (I : Inv X pins σ H s) (h : H p = some (.lst xs)) :
    ∃ (its : List Value) (n : Nat), Vals xs its /\ s.heap.get? p = some { cls := .type "list", data := .seq its.toArray n } /\ xs.length <= sizeLine := by
  obtain ⟨z, its, n, r, e⟩ := I.hok p _ h
  exact ⟨its, n, r, e, z⟩
theorem Inv.lstUpd {pins : List (Addr × Obj)} {σ : St} {H : Hp} {s : Shared} {p : Addr} {xs ys : List V} {its its' : List Value} {n n' : Nat} {f : Obj -> Obj} (I : Inv X pins σ H s) (h : H p = some (.lst xs))
    (ho : s.heap.get? p = some { cls := .type "list", data := .seq its.toArray n }) (hf : f { cls := .type "list", data := .seq its.toArray n } = { cls := .type "list", data := .seq its'.toArray n' }) (r : Vals ys its') (hz : ys.length <= sizeLine) (t : Nat) :
    Inv X pins σ (upd H p (.lst ys)) { s with heap := s.heap.update p f, toks := t } := by
  have e : (s.heap.update p f).get? p = some { cls := .type "list", data := .seq its'.toArray n' } := by
    rw [Heap.get?_update_self f ho (by rw [hf] <;> rfl), hf]
  refine I.write (x := p) (e := p) (by rw [h]; trivial) (.inl rfl) (fun b u hb q => (Heap.get?_update_other _ _ (Ne.symm hb)).trans q) ⟨_, e⟩ ?_
  exact ⟨hz, its', n', r, e⟩
def rSetL : V -> V -> V -> Hp -> (Hp -> Prop) -> Prop := fun o i v H Q => ∃ p xs k j, o = .ref p /\ i = .int k /\ H p = some (.lst xs) /\ ixN xs.length k = some j /\ Q (upd H p (.lst (xs.set j v)))
theorem vK : PSet X rSetL := by
  intro pins s σ H o i v ov iv u Q I ro ri rv h
  obtain ⟨p, xs, k, j, rfl, rfl, hp, hj, q⟩ := h
  cases ro
  obtain ⟨t, rfl⟩ := ri
  obtain ⟨its, n, r, ho, hz⟩ := I.lst hp
  obtain ⟨h1, h2, h3, h4⟩ := tO hj
  have hl := r.length
  have hn := line63
  have I' : Inv X pins σ (upd H p (.lst (xs.set j v))) { s with heap := s.heap.update p (Obj.mapSeq (·.setIfInBounds j u)) } :=
    I.lstUpd hp ho (vU its n j u) (r.set rv j) (by rw [List.length_set]; exact hz) s.toks
  by_cases h0 : 0 <= k
  . have hk : k.toNat = j := by
      rw [seqIndex_of h0 h4] at h1
      exact Option.some.inj h1
    exact PySem.W.ki_setAt ho h0 (by omega) (by rw [List.size_toArray, <- hl]; exact h4) (by rw [hk]; exact ⟨_, I', q⟩)
  . have hk : (k + (its.toArray.size : Int)).toNat = j := by
      rw [seqIndex_neg (by omega) h3] at h1
      rw [List.size_toArray, <- hl]
      exact Option.some.inj h1
    exact PySem.W.ki_setBack ho (by omega) (by rw [List.size_toArray, <- hl]; exact h3) (by omega) (by rw [hk]; exact ⟨_, I', q⟩)
theorem vY (lo hi : Option Int) (n : Nat) : (sliceBounds lo hi none n).1 = ((HT.sIx n 0 lo : Nat) : Int) /\ (sliceBounds lo hi none n).2.1 = ((HT.sIx n n hi : Nat) : Int) /\ (sliceBounds lo hi none n).2.2 = 1 := by
  refine ⟨?_, ?_, rfl⟩
  . cases lo with
    | none => simp [sliceBounds, HT.sIx]
    | some i =>
      simp only [sliceBounds, HT.sIx, Option.getD_none, show (1 : Int) > 0 by decide, if_true]
      by_cases h : i < 0
      . simp only [h, if_true] <;> omega
      . simp only [h, if_false] <;> omega
  . cases hi with
    | none => simp [sliceBounds, HT.sIx]
    | some i =>
      simp only [sliceBounds, HT.sIx, Option.getD_none, show (1 : Int) > 0 by decide, if_true]
      by_cases h : i < 0
      . simp only [h, if_true] <;> omega
      . simp only [h, if_false] <;> omega
theorem cY (its : List Value) (lo hi : Option Int) : slicePick its.toArray lo hi none = ((its.drop (HT.sIx its.length 0 lo)).take (HT.sIx its.length its.length hi - HT.sIx its.length 0 lo)).toArray := by
  obtain ⟨h1, h2, h3⟩ := vY lo hi its.toArray.size
  unfold slicePick
  rw [h1, h2, h3]
  simp only [sliceRange_one, pick_run, List.size_toArray] <;> rfl
def rSlL (K : PySem.W.Frag) : V -> Option Int -> Option Int -> Hp -> VK -> Prop := fun x lo hi H Q => ∃ a xs, x = .ref a /\ SqL K H a xs /\ ∀ p, H p = none -> Q (.ref p) (upd H p (.lst (cutV xs lo hi)))
theorem sl_list : SlR X (rSlL X.K) := by
  intro pins s σ H x v vl vu lo hi sl Q I rx hs pl pu h
  obtain ⟨a, xs, rfl, hx, q⟩ := h
  cases rx
  obtain ⟨its, r, ht, hz⟩ := I.list hx
  have hlen := r.length
  refine ⟨"list", _, slot_list_getitem.lookup, ht.isList.typeIs, ?_⟩
  refine wpAny_getItem_list_slice ht.isList hs pl pu .none (by simp) ?_ (by rw [List.size_toArray] <;> omega)
  rw [cY, <- hlen]
  refine ⟨.ref s.heap.objs.size, _, I.laid (t' := s.toks) (o := .lst (cutV xs lo hi)) (fun b ob q => Heap.get?_push_of_some _ q) (Nat.le_refl _) ?_, rfl, q _ (I.hok.fresh (Nat.le_refl _))⟩
  exact ⟨Nat.le_trans (uK xs lo hi) hz, _, 0, (r.drop (HT.sIx xs.length 0 lo)).take (HT.sIx xs.length xs.length hi - HT.sIx xs.length 0 lo), Heap.get?_push_size _ rfl⟩
def flatV : V -> Bool
  | .non => true
  | .bl _ => true
  | .int _ => true
  | .str _ => true
  | _ => false
def eqV : V -> V -> Bool
  | .non, .non => true
  | .bl a, .bl b => a == b
  | .bl a, .int b => (if a then 1 else 0) == b
  | .int a, .bl b => a == (if b then 1 else 0)
  | .int a, .int b => a == b
  | .str a, .str b => a == b
  | _, _ => false
theorem eqAt_V {A : Around} {s : Shared} {y x : V} {u v : Value} (ry : RelV y u) (rx : RelV x v) (fy : flatV y = true) (fx : flatV x = true) : SeqAt.EqAt A s u v (eqV y x) := by
  cases y with
  | non =>
    cases ry
    cases x with
    | non => cases rx; exact SeqAt.EqAt.same _
    | bl b => cases rx; exact SeqAt.EqAt.none_bool b
    | int b => obtain ⟨t, rfl⟩ := rx; exact SeqAt.EqAt.none_int b t
    | str b => obtain ⟨t, rfl⟩ := rx; exact SeqAt.EqAt.none_str b t
    | _ => exact absurd (show false = true from fx) Bool.false_ne_true
  | bl a =>
    cases ry
    cases x with
    | non => cases rx; exact SeqAt.EqAt.bool_none a
    | bl b => cases rx; exact SeqAt.EqAt.bool_bool a b
    | int b => obtain ⟨t, rfl⟩ := rx; exact SeqAt.EqAt.bool_int a b t
    | str b => obtain ⟨t, rfl⟩ := rx; exact SeqAt.EqAt.bool_str a b t
    | _ => exact absurd (show false = true from fx) Bool.false_ne_true
  | int a =>
    obtain ⟨t', rfl⟩ := ry
    cases x with
    | non => cases rx; exact SeqAt.EqAt.int_none a t'
    | bl b => cases rx; exact SeqAt.EqAt.int_bool a t' b
    | int b => obtain ⟨t, rfl⟩ := rx; exact SeqAt.EqAt.int_int a t' b t
    | str b => obtain ⟨t, rfl⟩ := rx; exact SeqAt.EqAt.int_str a t' b t
    | _ => exact absurd (show false = true from fx) Bool.false_ne_true
  | str a =>
    obtain ⟨t', rfl⟩ := ry
    cases x with
    | non => cases rx; exact SeqAt.EqAt.str_none a t'
    | bl b => cases rx; exact SeqAt.EqAt.str_bool a t' b
    | int b => obtain ⟨t, rfl⟩ := rx; exact SeqAt.EqAt.str_int a t' b t
    | str b => obtain ⟨t, rfl⟩ := rx; exact SeqAt.EqAt.str_str a t' b t
    | _ => exact absurd (show false = true from fx) Bool.false_ne_true
  | _ => exact absurd (show false = true from fy) Bool.false_ne_true
def eqU (x : V) (u : Value) : Bool := match u with
  | .none => eqV .non x
  | .bool b => eqV (.bl b) x
  | .int i _ => eqV (.int i) x
  | .str z _ => eqV (.str z) x
  | _ => false
theorem eqU_of {x y : V} {u : Value} (r : RelV y u) (f : flatV y = true) : eqU x u = eqV y x := by
  cases y with
  | non => cases r; rfl
  | bl b => cases r; rfl
  | int i => obtain ⟨t, rfl⟩ := r; rfl
  | str z => obtain ⟨t, rfl⟩ := r; rfl
  | _ => exact absurd (show false = true from f) Bool.false_ne_true
theorem wY {x : V} : ∀ {xs : List V} {us : List Value}, Vals xs us -> xs.all flatV = true -> us.any (eqU x) = xs.any fun y => eqV y x
  | _, _, .nil, _ => rfl
  | y :: xs, u :: us, .cons r t, f => by
    rw [List.all_cons, Bool.and_eq_true] at f
    rw [List.any_cons, List.any_cons, eqU_of r f.1, wY t f.2]
theorem uV {A : Around} {s : Shared} {x : V} {v : Value} (rx : RelV x v) (fx : flatV x = true) : ∀ {xs : List V} {us : List Value}, Vals xs us -> xs.all flatV = true -> ∀ u ∈ us, SeqAt.EqAt A s u v (eqU x u)
  | _, _, .nil, _ => fun u hu => by cases hu
  | y :: xs, u :: us, .cons r t, f => fun u' hu => by
    rw [List.all_cons, Bool.and_eq_true] at f
    rcases List.mem_cons.mp hu with rfl | hu
    . rw [eqU_of r f.1]; exact eqAt_V r rx f.1 fx
    . exact uV rx fx t f.2 u' hu
def inV (x : V) (xs : List V) : Bool := xs.any fun y => eqV y x
def rIn (K : PySem.W.Frag) (neg : Bool) : R2 := fun x y H Q => ∃ p xs, y = .ref p /\ (SqL K H p xs \/ SqT K H p xs) /\ flatV x = true /\ xs.all flatV = true /\ Q (.bl (if neg then !inV x xs else inV x xs)) H
theorem nJ : OpR X (compareOp .NotIn) (rIn X.K true) := by
  intro pins s σ H x y v u Q I rx ry h
  obtain ⟨p, xs, rfl, hq, fx, fs, q⟩ := h
  cases ry
  rcases hq with hq | hq
  . obtain ⟨its, r, pl, hz⟩ := I.list hq
    refine SeqAt.notIn_listAt (eqU x) pl.isList (fun w hw => uV rx fx r fs w (by simpa using hw)) ⟨.bl _, H, I, rfl, ?_⟩
    rw [show its.toArray.any (eqU x) = its.any (eqU x) by simp, wY r fs]
    exact q
  . obtain ⟨its, r, pl, hz⟩ := I.tuple hq
    refine SeqAt.notIn_tupleAt (eqU x) pl (fun w hw => uV rx fx r fs w (by simpa using hw)) ⟨.bl _, H, I, rfl, ?_⟩
    rw [show its.toArray.any (eqU x) = its.any (eqU x) by simp, wY r fs]
    exact q
theorem zQ : CallR X (.builtin "len") (fun xs H Q => ∃ p ys, xs = [.ref p] /\ (SqL X.K H p ys \/ SqT X.K H p ys) /\ Q (.int ys.length) H) := by
  intro pins s σ H xs us Q I r h
  obtain ⟨p, ys, rfl, hq, q⟩ := h
  obtain ⟨u, rfl, rx⟩ := vals1 r
  cases rx
  have hn := line63
  rcases hq with hq | hq
  . obtain ⟨its, r', pl, hz⟩ := I.list hq
    have hlen := r'.length
    exact Calls.call_len_list pl.isList (by simp only [List.size_toArray] <;> omega) ⟨.int ys.length, H, I.tok _, ⟨s.toks + 1, by rw [List.size_toArray, hlen]⟩, q⟩
  . obtain ⟨its, r', pl, hz⟩ := I.tuple hq
    have hlen := r'.length
    exact len_tuple pl (by simp only [List.size_toArray] <;> omega) ⟨.int ys.length, H, I.tok _, ⟨s.toks + 1, by rw [List.size_toArray, hlen]⟩, q⟩
theorem xY : CallR X (.builtin "len") (fun xs H Q => ∃ z, xs = [.str z] /\ z.length <= sizeLine /\ Q (.int z.length) H) := by
  intro pins s σ H xs us Q I r h
  obtain ⟨z, rfl, hz, q⟩ := h
  obtain ⟨u, rfl, t, rfl⟩ := vals1 r
  have hn := line63
  exact len_str (by omega) ⟨.int z.length, H, I.tok _, ⟨_, rfl⟩, q⟩
theorem CallR.or {f : Value} {r r' : List V -> Hp -> VK -> Prop} (h : CallR X f r) (h' : CallR X f r') : CallR X f (fun xs H Q => r xs H Q \/ r' xs H Q) := by
  intro pins s σ H xs us Q I rs q
  rcases q with q | q
  . exact h pins s σ H xs us Q I rs q
  . exact h' pins s σ H xs us Q I rs q
theorem yY : CallR X (.type "list") (fun xs H Q => ∃ p ys, xs = [.ref p] /\ (SqL X.K H p ys \/ SqT X.K H p ys) /\ ∀ l, H l = none -> Q (.ref l) (upd H l (.lst ys))) := by
  intro pins s σ H xs us Q I r h
  obtain ⟨p, ys, rfl, hq, q⟩ := h
  obtain ⟨u, rfl, rx⟩ := vals1 r
  cases rx
  have fin : ∀ (its : List Value), Vals ys its -> ys.length <= sizeLine -> ∀ (h' : Heap) (c' : Nat), (∀ b o', s.heap.get? b = some o' -> h'.get? b = some o') ->
      h'.get? s.heap.objs.size = some { cls := .type "list", dict := none, data := .seq its.toArray c', slots := #[] } -> EP X pins σ Q (.ref s.heap.objs.size) { s with heap := h' } := fun its r' hz h' c' kp e =>
    ⟨.ref s.heap.objs.size, _, I.laid (t' := s.toks) kp (Nat.le_refl _) (show ObjOk X.prog X.w _ h' _ (.lst ys) from ⟨hz, its, c', r', e⟩), rfl, q _ (I.hok.fresh (Nat.le_refl _))⟩
  rcases hq with hq | hq
  . obtain ⟨its, r', pl, hz⟩ := I.list hq
    have hlen := r'.length
    obtain ⟨o, ho, hc, n, hd⟩ := pl.isList
    exact call_list_seq p (.inl rfl) ho hc hd (fun h' c' kp e => fin its r' hz h' c' kp e) (by simp only [List.size_toArray] <;> omega)
  . obtain ⟨its, r', pl, hz⟩ := I.tuple hq
    have hlen := r'.length
    obtain ⟨o, ho, hc, n, hd⟩ := pl
    exact call_list_seq p (.inr rfl) ho hc hd (fun h' c' kp e => fin its r' hz h' c' kp e) (by simp only [List.size_toArray] <;> omega)
def tyV (K : PySem.W.Frag) (T : String) (x : V) (H : Hp) : Prop := match x with
  | .str _ => T = "str"
  | .int _ => T = "int"
  | .ref p => (T = "list" /\ ∃ xs, SqL K H p xs) \/ (T = "tuple" /\ ∃ o, K.lookup p = some o /\ o.cls = .type "tuple" /\ o.dict = none) \/
      (T = "dict" /\ ((∃ kvs, H p = some (.dK kvs)) \/ ∃ kvs, H p = some (.dT kvs))) \/ (T = "set" /\ ∃ S n, H p = some (.set S n))
  | _ => False
theorem tyV_is {pins : List (Addr × Obj)} {σ : St} {H : Hp} {s : Shared} {T : String} {x : V} {v : Value} (I : Inv X pins σ H s) (r : RelV x v) (ty : tyV X.K T x H) :
    s.TypeIs v T /\ ∀ a, v = .ref a -> ∃ ob, s.heap.get? a = some ob /\ ob.dict = none := by
  cases x with
  | str z =>
    obtain ⟨t, rfl⟩ := r
    cases (show T = "str" from ty)
    exact ⟨typeIs_str s z t, fun _ e => nomatch e⟩
  | int i =>
    obtain ⟨t, rfl⟩ := r
    cases (show T = "int" from ty)
    exact ⟨typeIs_int s i t, fun _ e => nomatch e⟩
  | ref p =>
    cases r
    rcases ty with ⟨rfl, xs, hq⟩ | ⟨rfl, o, hk, hc, hd⟩ | ⟨rfl, hk⟩ | ⟨rfl, S, n, hk⟩
    . obtain ⟨its, _, pl, _⟩ := I.list hq
      refine ⟨pl.isList.typeIs, fun a e => ?_⟩
      cases e
      obtain ⟨o, n, e, c, hd, _⟩ := pl
      exact ⟨o, e, hd⟩
    . refine ⟨⟨o, I.kIn p o hk, hc⟩, fun a e => ?_⟩
      cases e
      exact ⟨o, I.kIn _ o hk, hd⟩
    . have z : ∃ o, s.heap.get? p = some o /\ o.ExactDict := by
        rcases hk with ⟨kvs, hk⟩ | ⟨kvs, hk⟩
        . obtain ⟨_, _, _, _, o, _, _, e, ex, _⟩ := I.hok p _ hk
          exact ⟨o, e, ex⟩
        . obtain ⟨_, _, _, _, o, _, _, e, ex, _⟩ := I.hok p _ hk
          exact ⟨o, e, ex⟩
      obtain ⟨o, e, ex⟩ := z
      refine ⟨⟨o, e, ex.1⟩, fun a e2 => ?_⟩
      cases e2
      exact ⟨o, e, ex.2.1⟩
    . obtain ⟨o, _, _, _, e, ex, _⟩ := I.hok p _ hk
      refine ⟨⟨o, e, ex.1⟩, fun a e2 => ?_⟩
      cases e2
      exact ⟨o, e, ex.2.1⟩
  | _ => exact False.elim ty
def tBM0 (K : PySem.W.Frag) (T : String) (r : V -> List V -> Hp -> VK -> Prop) (to : TE) : TE := fun σ H Q => to σ H fun x H1 => tyV K T x H1 /\ r x [] H1 Q
def tBM (K : PySem.W.Frag) (T : String) (r : V -> List V -> Hp -> VK -> Prop) (to : TE) (t : TA) : TE := fun σ H Q => to σ H fun x H1 => tyV K T x H1 /\ t σ H1 fun xs H2 => r x xs H2 Q
variable {o e : Expr} {es : List Expr} {to : TE} {t : TA} {name : Str} {apos cpos : Pos} {T id : String} {r : V -> List V -> Hp -> VK -> Prop}
theorem pe_bm0 (pa : PlainAttrs T) (slot : Slot T name id) (hty : typeOf (.builtin id) = pure (.type "method_descriptor")) (hm : MtR X id r) (ho : PE X o to)
    (hbase : attributeBase o name X.env (eval o X.env) = eval o X.env := by rfl) (hline : (apos.endLine == cpos.line) = true := by rfl) : PE X (.Call (.Attribute o name apos) [] [] cpos) (tBM0 X.K T r to) := by
  intro pins s σ H Q I h
  refine wpAny_Call_method0_late hbase hline (thn (ho pins s σ H _ I h) fun v s1 hh => ?_)
  obtain ⟨x, H1, I1, r1, ty, q1⟩ := hh
  obtain ⟨h1, h2⟩ := tyV_is I1 r1 ty
  exact ⟨T, id, pa, slot, hty, h1, h2, Calls.callWith_builtin rfl (PySem.evalArgs_none (hm pins s1 σ H1 x [] v [] Q I1 r1 .nil q1))⟩
theorem yX (pa : PlainAttrs T) (slot : Slot T name id) (hty : typeOf (.builtin id) = pure (.type "method_descriptor")) (hm : MtR X id r) (ho : PE X o to) (ha : PA X (e :: es) t)
    (hbase : attributeBase o name X.env (eval o X.env) = eval o X.env := by rfl)
    (hfew : ((backTo cpos (starEach (e :: es) X.env)).all (fun x => !x.1) && (backToKw cpos (keywordEach [] X.env)).all (fun x => x.1.isSome)
      && decide ((e :: es).length + ([] : List Keyword).length + (if ([] : List Keyword).isEmpty then 0 else 1) < 30)) = true := by rfl)
    (hline : (apos.endLine == cpos.line) = true := by rfl) (hs : starEach (e :: es) X.env = (false, eval e X.env) :: starEach es X.env := by rfl) (hplain : (backTo cpos (starEach es X.env)).any (·.1) = false := by rfl) :
    PE X (.Call (.Attribute o name apos) (e :: es) [] cpos) (tBM X.K T r to t) := by
  intro pins s σ H Q I h
  refine wpAny_Call_method_late hbase hfew hline rfl (thn (ho pins s σ H _ I h) fun v s1 hh => ?_)
  obtain ⟨x, H1, I1, r1, ty, q1⟩ := hh
  obtain ⟨h1, h2⟩ := tyV_is I1 r1 ty
  refine ⟨T, id, pa, slot, hty, h1, h2, ?_⟩
  have hA := ha cpos pins s1 σ H1 _ I1 q1
  rw [hs] at hA ⊢
  refine Calls.callWith_builtin (by show (false || (backTo cpos (starEach es X.env)).any (·.1)) = false; rw [hplain] <;> rfl) (Calls.evalArgs_plain ?_)
  exact thn hA fun us s2 ⟨vs, H2, I2, r2, q2⟩ => hm pins s2 σ H2 x vs v us Q I2 r1 r2 q2
end
end L2
namespace L2
open PySem PySem.Spec PyProof.Rows
def MtM (X : Cx) (id : String) (r : V -> List V -> Hp -> VK -> Prop) : Prop :=
  ∀ (pins : List (Addr × Obj)) (s : Shared) (σ : St) (H : Hp) (x : V) (xs : List V) (v : Value) (us : List Value) (Q : VK), Inv X pins σ H s -> RelV x v -> Vals xs us -> r x xs H Q ->
    wpAny (model X.prog X.w) X.A (call (.builtin id) (v :: us)) (EP X pins σ Q) X.xe s
theorem Vals.one : ∀ {x : V} {us : List Value}, Vals [x] us -> ∃ u, us = [u] /\ RelV x u
  | _, _, .cons r .nil => ⟨_, rfl, r⟩
theorem Vals.two : ∀ {x y : V} {us : List Value}, Vals [x, y] us -> ∃ u v, us = [u, v] /\ RelV x u /\ RelV y v
  | _, _, _, .cons r (.cons q .nil) => ⟨_, _, rfl, r, q⟩
theorem Vals.zero : ∀ {us : List Value}, Vals [] us -> us = []
  | _, .nil => rfl
theorem Vals.dropLast {xs : List V} {us : List Value} (h : Vals xs us) : Vals xs.dropLast us.dropLast := by
  induction h with
  | nil => exact .nil
  | cons r t ih =>
    cases t with
    | nil => exact .nil
    | cons q t' => exact .cons r ih
theorem Vals.eraseIdx : ∀ {xs : List V} {us : List Value} (i : Nat), Vals xs us -> Vals (xs.eraseIdx i) (us.eraseIdx i)
  | _, _, _, .nil => .nil
  | _, _, 0, .cons _ t => t
  | _, _, i + 1, .cons r t => .cons r (Vals.eraseIdx i t)
theorem Vals.reverse {xs : List V} {us : List Value} (h : Vals xs us) : Vals xs.reverse us.reverse := by
  induction h with
  | nil => exact .nil
  | cons r t ih => rw [List.reverse_cons, List.reverse_cons]; exact Vals.append ih (.cons r .nil)
theorem mY {α : Type} : ∀ (l : List α) (i : Nat), (l.eraseIdx i).length <= l.length
  | [], _ => Nat.le_refl _
  | _ :: _, 0 => Nat.le_succ _
  | _ :: r, i + 1 => Nat.succ_le_succ (mY r i)
section
variable {X : Cx} {pins : List (Addr × Obj)} {σ : St} {H : Hp} {s : Shared} {l b : Addr} {xs ys zs : List V}
theorem Inv.lset {its its' : List Value} {n : Nat} {f : Array Value -> Array Value} {t' : Nat} (I : Inv X pins σ H s) (hH : H l = some (.lst xs))
    (e : s.heap.get? l = some { cls := .type "list", data := .seq its.toArray n }) (hf : f its.toArray = its'.toArray) (hv : Vals ys its') (hz : ys.length <= sizeLine) :
    Inv X pins σ (upd H l (.lst ys)) { s with heap := s.heap.update l (Obj.mapSeq f), toks := t' } := by
  have q := PySem.IsL.update e f
  rw [hf] at q
  refine I.write (x := l) (e := l) (by rw [hH]; exact trivial) (.inl rfl) (fun b' u hb hu => (Heap.get?_update_other s.heap (Obj.mapSeq f) (Ne.symm hb)).trans hu) ⟨_, q⟩ ?_
  exact ⟨hz, its', _, hv, q⟩
theorem Inv.lnew {its : List Value} {t' : Nat} (I : Inv X pins σ H s) (hv : Vals ys its) (hz : ys.length <= sizeLine) :
    Inv X pins σ (upd H s.heap.objs.size (.lst ys)) { s with heap := s.heap.push { cls := .type "list", data := .seq its.toArray }, toks := t' } :=
  I.laid (fun _ _ q => Heap.get?_push_of_some _ q) (Nat.le_refl _) ⟨hz, its, 0, hv, Heap.get?_push_size _ rfl⟩
theorem Inv.fresh (I : Inv X pins σ H s) : H s.heap.objs.size = none := I.hok.fresh (Nat.le_refl _)
theorem Inv.lstM (I : Inv X pins σ H s) (hH : H l = some (.lst xs)) : xs.length <= sizeLine /\ ∃ (its : List Value) (n : Nat), Vals xs its /\ xs.length = its.length /\ s.heap.get? l = some { cls := .type "list", data := .seq its.toArray n } := by
  obtain ⟨z, its, n, r, e⟩ := I.hok l _ hH
  exact ⟨z, its, n, r, r.length, e⟩
theorem notLongL {n : Nat} (h : n <= sizeLine) : Builtin.List.listTooLong n = false := by
  unfold Builtin.List.listTooLong
  exact decide_eq_false (by omega)
end
section
variable {X : Cx}
def rAppend : V -> List V -> Hp -> VK -> Prop := fun x vs H Q => ∃ l xs y, x = .ref l /\ vs = [y] /\ H l = some (.lst xs) /\ xs.length < sizeLine /\ Q .non (upd H l (.lst (xs ++ [y])))
theorem kX : MtM X "list.append" rAppend := by
  intro pins s σ H x vs v us Q I rx rv h
  obtain ⟨l, xs, y, rfl, rfl, hH, hz, q⟩ := h
  cases rx
  obtain ⟨u, rfl, ru⟩ := rv.one
  obtain ⟨z, its, n, r, hl, e⟩ := I.lstM hH
  refine call_meets F.slot_list_append ⟨_, e, rfl⟩ F.entry_list_append (F.args_list_append_2 _ _) (PySem.list_append l its.toArray n u (by rw [List.size_toArray]; omega)) ⟨e, ?_⟩
  refine ⟨.non, _, I.lset (its' := its ++ [u]) hH e (by simp) (r.append (.cons ru .nil)) ?_, rfl, q⟩
  rw [List.length_append, List.length_singleton]
  omega
def rExtend : V -> List V -> Hp -> VK -> Prop := fun x vs H Q => ∃ l b xs zs, x = .ref l /\ vs = [.ref b] /\ H l = some (.lst xs) /\ H b = some (.lst zs) /\ xs.length + zs.length <= sizeLine /\ Q .non (upd H l (.lst (xs ++ zs)))
theorem dJ : MtM X "list.extend" rExtend := by
  intro pins s σ H x vs v us Q I rx rv h
  obtain ⟨l, b, xs, zs, rfl, rfl, hH, hB, hz, q⟩ := h
  cases rx
  obtain ⟨u, rfl, ru⟩ := rv.one
  cases ru
  obtain ⟨z, its, n, r, hl, e⟩ := I.lstM hH
  obtain ⟨z2, its2, n2, r2, hl2, e2⟩ := I.lstM hB
  have hsz : its.toArray.size + its2.toArray.size <= sizeLine := by rw [List.size_toArray, List.size_toArray]; omega
  have hlong : ¬ (!its.toArray.isEmpty && Builtin.List.listTooLong (its.toArray.size + its2.toArray.size)) = true := by
    rw [notLongL hsz, Bool.and_false]
    exact Bool.false_ne_true
  refine call_meets F.slot_list_extend ⟨_, e, rfl⟩ F.entry_list_extend (F.args_list_extend_2 _ _)
    (AutoSeq1.list_extend_list_list_0 l its.toArray n b its2.toArray n2 hlong (by rw [List.size_toArray]; omega) (by omega)) ⟨e, e2, ?_⟩
  refine ⟨.non, _, I.lset (its' := its ++ its2) hH e (by simp) (r.append r2) ?_, rfl, q⟩
  rw [List.length_append]
  omega
def rPopAt : V -> List V -> Hp -> VK -> Prop := fun x vs H Q => ∃ l xs i k y, x = .ref l /\ vs = [.int i] /\ H l = some (.lst xs) /\ -(2 ^ 63) <= i /\ i < 2 ^ 63 /\ seqIndex? i xs.length = some k /\ xs[k]? = some y /\ Q y (upd H l (.lst (xs.eraseIdx k)))
theorem wK : MtM X "list.pop" rPopAt := by
  intro pins s σ H x vs v us Q I rx rv h
  obtain ⟨l, xs, i, k, y, rfl, rfl, hH, h1, h2, hk, hy, q⟩ := h
  cases rx
  obtain ⟨u, rfl, ru⟩ := rv.one
  obtain ⟨t, rfl⟩ := ru
  obtain ⟨z, its, n, r, hl, e⟩ := I.lstM hH
  obtain ⟨w, hw, rw'⟩ := r.get hy
  refine call_meets F.slot_list_pop ⟨_, e, rfl⟩ F.entry_list_pop (F.args_list_pop_2 _ _)
    (MeetsSeq.list_pop_at l its.toArray n i t k w (fitsIndex_both h1 h2) (by rw [List.size_toArray, <- hl]; exact hk) (by rw [<- Array.getElem?_toList]; exact hw) (by rw [List.size_toArray]; omega)) ⟨e, ?_⟩
  refine ⟨y, _, I.lset (its' := its.eraseIdx k) hH e ?_ (r.eraseIdx k) ?_, rw', q⟩
  . show its.toArray.eraseIdxIfInBounds k = (its.eraseIdx k).toArray
    rw [List.eraseIdxIfInBounds_toArray]
  . have := mY xs k
    omega
def rCat : R2 := fun x y H Q => ∃ l b xs zs, x = .ref l /\ y = .ref b /\ H l = some (.lst xs) /\ H b = some (.lst zs) /\ xs.length + zs.length <= sizeLine /\ ∀ p, H p = none -> Q (.ref p) (upd H p (.lst (xs ++ zs)))
theorem dX : OpR X (binaryOp .Add) rCat := by
  intro pins s σ H x y v u Q I rx ry h
  obtain ⟨l, b, xs, zs, rfl, rfl, hH, hB, hz, q⟩ := h
  cases rx
  cases ry
  obtain ⟨z, its, n, r, hl, e⟩ := I.lstM hH
  obtain ⟨z2, its2, n2, r2, hl2, e2⟩ := I.lstM hB
  refine PySem.P.add_list e e2 ?_ (by rw [List.size_toArray, List.size_toArray]; omega)
  have ea : its.toArray ++ its2.toArray = (its ++ its2).toArray := by simp
  rw [ea]
  exact ⟨.ref _, _, I.lnew (t' := s.toks) (r.append r2) (by rw [List.length_append]; omega), rfl, q _ I.fresh⟩
theorem len_rep {α : Type} (xs : List α) (k : Nat) : (List.replicate k xs).flatten.length = k * xs.length := by
  induction k with
  | zero => simp
  | succ k ih => rw [List.replicate_succ, List.flatten_cons, List.length_append, ih, Nat.succ_mul, Nat.add_comm]
end
section
variable {prog : Program} {w : World} {A : Around} {E : Value -> Shared -> Prop} {s : Shared}
set_option maxRecDepth 100000 in
end
section
variable {X : Cx}
end
end L2
namespace Att
open PySem PySem.W PySem.Calls PyProof.Rows
theorem eV {P : Params} {h : Heap} : ∀ (ns : List Int) (vs : List Value), WellAll P h vs (ns.map WData.int) -> IntsAre vs ns := by
  intro ns
  induction ns with
  | nil =>
    intro vs w
    rw [List.map_nil] at w
    cases w
    exact .nil
  | cons n ns ih =>
    intro vs w
    rw [List.map_cons] at w
    cases w with
    | cons a b =>
      cases a
      exact .cons _ _ (ih _ b)
theorem script_of {l : OpenLaw} {n : Nat} (hn : l.most = some n) {P : Params} {h : Heap} {args : List WData} {vals : List Value}
    (hpre : l.row.toRowW.claim.pre args = true) (hwl : WellAll P h vals args) :
    ∃ a vs ns, vals = [Value.ref a] /\ args = [WData.list (ns.map WData.int)] /\ h.get? a = some { cls := .type "list", data := .seq vs.toArray } /\ IntsAre vs ns /\ ns.length <= n := by
  have hsh : WShape.hasAll [] args [.list .int] = true := (pre_splitW hpre).1
  have hc : l.pre.holds [] { args := args } = true := (pre_splitW hpre).2
  obtain ⟨d, r, rfl, h1, h2⟩ := hasAllW_cons hsh
  obtain rfl := hasAllW_nil h2
  obtain ⟨xs, rfl, h3⟩ := hasW_list h1
  obtain ⟨ns, rfl⟩ := items_int h3
  have hlen : ns.length <= n := by
    unfold OpenLaw.pre at hc
    have h4 : (WTm.not (.lt (.lit (.int (n : Int))) (.len (.arg 0)))).holds [] { args := [.list (ns.map .int)] } = true := by
      have h4 := (holds_andW hc).1
      rw [hn] at h4
      exact h4
    have h5 := condW_of h4 (w_not (w_lt w_lit (w_len_list (w_arg rfl))))
    rw [List.length_map] at h5
    refine Nat.le_of_not_lt fun q => ?_
    have q' : (n : Int) < ((ns.length : Nat) : Int) := by omega
    first
      | (rw [decide_eq_true q'] at h5; exact absurd h5 (by decide))
      | (simp at h5; omega)
  cases hwl with
  | cons w1 w2 =>
    cases w2
    cases w1 with
    | list ho hall => exact ⟨_, _, ns, rfl, rfl, ho, eV ns _ hall, hlen⟩
theorem post_true (l : OpenLaw) (args : List WData) : l.row.toRowW.claim.post args (.bool true) args = true :=
  postW_of (r := l.row.toRowW) (X := (true == true))
    (show WShape.has [] (.bool true) .bool = true by first | rfl | decide | simp [WShape.has, WShape.arms, WShape.armsAll])
    (show (WTm.eq .res (.lit (.bool true))).value [] { args := args, res := some (.bool true), after := args } = some (.bool (true == true)) from w_eq_bool (w_res rfl) w_lit) rfl
theorem attach_call {l : OpenLaw} {n : Nat} {q : Program} {loose : List Str} {XP : (Str -> Option Value) -> Heap -> Prop} {YP : World -> Heap -> Prop} {d : DefRec}
    (hn : l.most = some n) (hdf : d.params.defaults = [])
    (call : ∀ (w : World) (s₀ s₁ : Shared) (mg mb : Str -> Option Value) (fa : Addr) (o : Obj) (pm cd doc : Value) (a : Addr) (vs : List Value) (ns : List Int),
      Ground q loose [] XP w s₀ mg mb s₁.heap -> YP w s₁.heap ->
      s₁.heap.get? fa = some o -> o.data = .func (docDef d.name d.params d.body d.scope pm cd doc) -> s₁.heap.CodeRec cd d.name -> mg d.name = some (.ref fa) ->
      s₁.heap.get? a = some { cls := .type "list", data := .seq vs.toArray } -> IntsAre vs ns -> ns.length <= n -> s₁.gens = #[] ->
      codeAny (model l.prog w) callerA (.call (.ref fa) ⟨[.ref a], []⟩) (fun r s' => r = .ok (.ret (.bool true)) /\ OldK s₁.heap s'.heap /\ s'.os = s₁.os /\ AllBare s'.gens) s₁) :
    WalkO q loose XP YP l.row.toRowW d [] (fun f vs => PySem.call f vs) := by
  intro w s₀ s₁ mg mb G Y fa o pm cd doc dV kV ho hd hcd hD hmg hg args vals as hpre hlay hrd hwl hlo
  obtain rfl : dV = .none := Dflts.none hD hdf
  obtain rfl : kV = .none := Dflts.noKw hD
  obtain ⟨a, vs, ns, rfl, rfl, hobj, hints, hlen⟩ := script_of hn hpre hwl
  refine enter_call (codeAny_mono (call w s₀ s₁ mg mb fa o pm cd doc a vs ns G Y ho (fd_plain hd) hcd hmg hobj hints hlen hg) fun r s' hq => ?_)
  obtain ⟨rfl, h2, h3, h4⟩ := hq
  exact ⟨.inl ⟨.bool true, .bool true, [], rfl, fun _ => rfl, .bool true, post_true l _, fun _ => ⟨List.Pairwise.nil, fun _ hm => (nomatch hm)⟩⟩, h2, h3, h4⟩
section
variable {prog : Program} {w : World} {A : Around} {E : Value -> Shared -> Prop} {s : Shared} {K : Frag}
def ledger (h : Heap) (L d : Addr) : List (Addr × Obj) := (List.range h.objs.size).filterMap fun a => if a = L \/ a = d then none else (h.get? a).map fun o => (a, o)
end
end Att
namespace L2
open PySem PySem.Spec PyProof.Rows
theorem nY : ∀ {vs : List Value} {ns : List Int}, IntsAre vs ns -> Vals (ns.map V.int) vs
  | _, _, .nil => .nil
  | _, _, .cons n t h => .cons ⟨t, rfl⟩ (nY h)
def Only (H : Hp) : Prop := ∀ b, H b = none \/ ∃ o xs, H b = some (.frz o (.lst xs))
theorem law_call {P : Program} {w : World} {K : PySem.W.Frag} {mg mb : Str -> Option Value} {CX : CXT} {k : Nat} {fa a : Addr} {fd : FuncData} {x : Str} {sp : Sp} {s₁ : Shared} {vs : List Value} {ns : List Int}
    (KX : K.In s₁.heap) (hns : s₁.heap.Ns mainGlobals mg) (hb : s₁.heap.Ns builtinsNs mb) (hbb : ∀ x : Str, x ≠ "__name__" -> mb x = bootBuiltins x) (hlim : s₁.heap.NoLimit) (hg : s₁.gens = #[])
    (ha : s₁.heap.get? a = some { cls := .type "list", data := .seq vs.toArray }) (hi : IntsAre vs ns) (hl : ns.length <= sizeLine) (hr : Room k callerA)
    (F : ∀ base : Heap, K.In base -> base.Ns mainGlobals mg -> FnOk P w K mg base CX k fa fd [x] sp) (hbind : ∀ (s : Shared) (u : Value), BindsTo s fd ⟨[u], []⟩ [(x, u)])
    (hsp : ∀ H : Hp, Only H -> SqL K H a (ns.map V.int) -> sp [.ref a] H (fun v _ => v = .bl true) fun _ _ _ => False)
    (hCX : ∀ H e s', CX [] H s₁ (fun _ _ _ => False) e s' -> False) :
    codeAny (model P w) callerA (.call (.ref fa) ⟨[.ref a], []⟩) (fun r s' => r = .ok (.ret (.bool true)) /\ OldK s₁.heap s'.heap /\ s'.os = s₁.os /\ AllBare s'.gens) s₁ := by
  have rv := nY hi
  have lenV := hi.length
  have core : ∀ H : Hp, Only H -> SqL K H a (ns.map V.int) -> HOk P w H s₁.heap -> (∀ b, H b ≠ none -> b = a) -> (H a ≠ none -> K.lookup a = none) ->
      codeAny (model P w) callerA (.call (.ref fa) ⟨[.ref a], []⟩) (fun r s' => r = .ok (.ret (.bool true)) /\ OldK s₁.heap s'.heap /\ s'.os = s₁.os /\ AllBare s'.gens) s₁ := by
    intro H hO hS hok hA hK
    have base_of : ∀ {b : Addr} {o : Obj}, s₁.heap.get? b = some o -> H b = none -> (hidT s₁.heap H).get? b = some o := fun e n => hidT_get e n
    have noA : ∀ {b : Addr} {o : Obj} {es : Array DictEntry} {ep : Nat}, s₁.heap.get? b = some o -> o.data = .dict es ep -> H b = none := fun {b o es ep} e d => by
      cases q : H b with
      | none => rfl
      | some u =>
        have e' : b = a := hA b (by rw [q]; simp)
        subst e'
        rw [ha] at e; cases e
        have d' : Data.seq vs.toArray _ = Data.dict es ep := d
        cases d'
    have nsK : ∀ {b : Addr} {m : Str -> Option Value}, s₁.heap.Ns b m -> (hidT s₁.heap H).Ns b m := fun {b m} ⟨o, es, ep, e, d, r⟩ => ⟨o, es, ep, base_of e (noA e d), d, r⟩
    have hKb : K.In (hidT s₁.heap H) := fun b o e => base_of (KX b o e) (by
      cases q : H b with
      | none => rfl
      | some u =>
        have e' : b = a := hA b (by rw [q]; simp)
        subst e'
        rw [hK (by rw [q]; simp)] at e; cases e)
    have hM : Mod K mg (hidT s₁.heap H) := ⟨hKb, nsK hns, ⟨mb, nsK hb, hbb⟩, let ⟨mc, h1, h2⟩ := hlim; ⟨mc, nsK h1, h2⟩⟩
    have e0 : Env0 P w K mg (hidT s₁.heap H) callerA [] s₁ H := ⟨rfl, hM, fun b o e => of_hidT e, Nat.le_of_eq (hidT_size _ _), trivial, fun b hb => absurd (show b ∈ ([] : List Addr) from hb) (by simp), hok, .of_eq hg⟩
    refine codeAny_mono ((F _ hKb (nsK hns)).run callerA [] s₁ H ⟨[.ref a], []⟩ [.ref a] [.ref a] _ _ hr e0 (hbind s₁ (.ref a)) (.cons rfl .nil) (hsp H hO hS)) fun r s' h => ?_
    cases r with
    | error e => exact (hCX H e s' h).elim
    | ok fl =>
      cases fl with
      | next => exact False.elim h
      | brk => exact False.elim h
      | cont => exact False.elim h
      | ret u =>
        obtain ⟨v, H', os, bare, un, hok', r', q⟩ := h
        have q' : v = .bl true := q
        subst q'
        obtain rfl : u = Value.bool true := r'
        refine ⟨rfl, OldK.of_keep fun b o e => ?_, os, bare⟩
        cases q : H b with
        | none => exact un.keep b o e q (by intro z; exact absurd (show b ∈ ([] : List Addr) from z) (by simp)) (by simp)
        | some u =>
          rcases hO b with z | ⟨ob, xs, z⟩
          . rw [q] at z; cases z
          . have z2 := un.frzs b ob _ z
            obtain ⟨e1, _⟩ := hok b _ z
            obtain ⟨e2, _⟩ := hok' b _ z2
            rw [e] at e1; cases e1
            exact e2
  cases hk : K.lookup a with
  | some o =>
    have e := KX a o hk
    rw [ha] at e
    cases e
    refine core (fun _ => none) (fun _ => .inl rfl) (.inr ⟨_, vs.toArray, _, hk, rfl, rfl, rfl, by rw [List.size_toArray, lenV]; exact hl, by simpa using rv⟩) (fun b u z => by have z' : (none : Option HO) = some u := z; cases z') (fun b z => absurd rfl z) fun z => absurd rfl z
  | none =>
    refine core (fun b => if b = a then some (.frz { cls := .type "list", data := .seq vs.toArray } (.lst (ns.map V.int))) else none) (fun b => ?_) (.inl (.inr ⟨{ cls := .type "list", data := .seq vs.toArray }, if_pos rfl⟩)) (fun b u z => ?_) (fun b z => ?_) fun _ => hk
    . by_cases hb : b = a
      . exact .inr ⟨_, _, if_pos hb⟩
      . exact .inl (if_neg hb)
    . by_cases hb : b = a
      . have z' := (if_pos hb).symm.trans z
        cases z'
        subst hb
        exact ⟨ha, by rw [List.length_map]; exact hl, vs, _, rv, ha⟩
      . have z' := (if_neg hb).symm.trans z
        cases z'
    . by_cases hb : b = a
      . exact hb
      . exact absurd (if_neg hb) z
end L2
namespace L2
open PySem PySem.Spec PyProof.Rows
abbrev KOf {K : PySem.W.Frag} {h : Heap} (_ : K.In h) : PySem.W.Frag := K
theorem walk_of {l : PySem.W.OpenLaw} {n k : Nat} {q : Program} {loose : List Str} {XP : (Str -> Option Value) -> Heap -> Prop} {YP : World -> Heap -> Prop} {d : DefRec} {K : Params -> PySem.W.Frag} {CX : World -> CXT} {sp : World -> Sp} {x : Str}
    (hn : l.most = some n) (hn2 : n <= sizeLine) (hdf : d.params.defaults = []) (hr : Room k callerA)
    (hY : ∀ (w : World) (h : Heap), YP w h -> (K w.params).In h)
    (F : ∀ (w : World) (mg : Str -> Option Value) (fa : Addr) (h : Heap), (K w.params).In h -> h.Ns mainGlobals mg -> mg d.name = some (.ref fa) ->
      ∃ fd : FuncData, (∀ (s : Shared) (u : Value), BindsTo s fd ⟨[u], []⟩ [(x, u)]) /\
        ∀ base : Heap, (K w.params).In base -> base.Ns mainGlobals mg -> FnOk l.prog w (K w.params) mg base (CX w) k fa fd [x] (sp w))
    (hsp : ∀ (w : World) (H : Hp) (a : Addr) (ns : List Int), ns.length <= n -> Only H -> SqL (K w.params) H a (ns.map V.int) -> sp w [.ref a] H (fun v _ => v = .bl true) fun _ _ _ => False)
    (hCX : ∀ (w : World) (H : Hp) (s : Shared) (e : Value) (s' : Shared), CX w [] H s (fun _ _ _ => False) e s' -> False) :
    PySem.W.WalkO q loose XP YP l.row.toRowW d [] (fun f vs => PySem.call f vs) := by
  refine Att.attach_call hn hdf fun w s₀ s₁ mg mb fa o pm cd doc a vs ns G Y ho hd hcd hmg hobj hints hlen hg => ?_
  have KX := hY w _ Y
  obtain ⟨fd, hb, hF⟩ := F w mg fa _ KX G.T.g hmg
  exact law_call KX G.T.g G.T.b G.T.builtins G.T.nolimit hg hobj hints (Nat.le_trans hlen hn2) hr hF hb (fun H hO hS => hsp w H a ns hlen hO hS) fun H e s' => hCX w H s₁ e s'
end L2
namespace L2
open PySem PySem.Spec PyProof.Rows
def defArgs (s : Stmt) : Arguments := match s with
  | .FunctionDef _ a _ _ _ _ _ _ _ _ => a
  | _ => { posonlyargs := [], args := [], vararg := none, kwonlyargs := [], kw_defaults := [], kwarg := none, defaults := [] }
def defBody (s : Stmt) : List Stmt := match s with
  | .FunctionDef _ _ b _ _ _ _ _ _ _ => b
  | _ => []
def defScope (s : Stmt) : Scope := match s with
  | .FunctionDef _ _ _ _ _ _ sc _ _ _ => sc
  | _ => { kind := .function, names := [], isGenerator := false, isCoroutine := false }
abbrev CX0 : CXT := fun _ _ _ _ _ _ => False
abbrev E0 : XK := fun _ _ _ => False
theorem pass0 {X : Cx} : Passes CX0 X E0 := fun _ _ _ _ _ _ _ h => h.elim
structure Fun (K : PySem.W.Frag) (x qual : Str) (st : Stmt) (f : Addr) (fd : FuncData) : Prop where
  ex : ∃ (oc : Value) (od : Option Addr) (kV doc pm : Value) (an : Option Addr) (cdv ct : Value) (osl : Array (Option Value)),
    fd = PySem.W.fnOf x qual (defArgs st) (defBody st) (defScope st) .none kV doc pm an cdv ct /\ K.lookup f = some ⟨oc, od, .func fd, osl⟩ /\ PySem.W.codeIn K cdv qual = true
  kp : PySem.W.keepIn K (.ref f) = true
section
variable {P : Program} {w : World} {K : PySem.W.Frag} {mg : Str -> Option Value} {base : Heap}
theorem Fun.ok {x qual : Str} {st : Stmt} {f : Addr} {fd : FuncData} {N ps : List Str} {k : Nat} {sp : Sp} (F : Fun K x qual st f fd) (S : FnScope N ps (defScope st)) (len : ∀ vs H Q E, sp vs H Q E -> vs.length = ps.length)
    (hbody : ∀ (cdv : Value) (A : Around) (outer : List Env) (s : Shared) (H : Hp) (vs : List V) (Q : VK) (E : XK), Room k (A.deeper (envOfC qual (defScope st) s.heap.objs.size f cdv)) -> sp vs H Q E ->
      ∃ t, PSs (cxOf CX0 P w K mg base N qual (defScope st) f cdv A outer s H E).nox (defBody st) t /\ t { nx := fun _ H' => Q .non H', rt := Q } (start N vs) H) : FnOk P w K mg base CX0 (k + 1) f fd ps sp := by
  obtain ⟨oc, od, kV, doc, pm, an, cdv, ct, osl, rfl, lk, hcd⟩ := F.ex
  refine fn_of lk hcd S len fun A outer s H vs Q E hr hsp => ?_
  obtain ⟨t, h, q⟩ := hbody cdv A outer s H vs Q E hr hsp
  exact ⟨t, h.nox, q⟩
theorem Fun.binds {x qual : Str} {st : Stmt} {f : Addr} {fd : FuncData} {ps : List Str} (F : Fun K x qual st f fd)
    (h : ∀ (kV doc pm : Value) (an : Option Addr) (cdv ct : Value) (us : List Value), us.length = ps.length -> bindArgs (PySem.W.fnOf x qual (defArgs st) (defBody st) (defScope st) .none kV doc pm an cdv ct) ⟨us, []⟩ = pure (ps.zip us)) : Binds K fd ps [] := by
  obtain ⟨oc, od, kV, doc, pm, an, cdv, ct, osl, rfl, lk, hcd⟩ := F.ex
  exact .all (h kV doc pm an cdv ct)
theorem wU {x qual : Str} {st : Stmt} {f : Addr} {oc : Value} {od an : Option Addr} {osl : Array (Option Value)} {kV doc pm cdv ct : Value} (l : K.lookup f = some ⟨oc, od, .func (PySem.W.fnOf x qual (defArgs st) (defBody st) (defScope st) .none kV doc pm an cdv ct), osl⟩)
    (c : PySem.W.codeIn K cdv qual = true) (k : PySem.W.keepIn K (.ref f) = true) : Fun K x qual st f (PySem.W.fnOf x qual (defArgs st) (defBody st) (defScope st) .none kV doc pm an cdv ct) := ⟨⟨oc, od, kV, doc, pm, an, cdv, ct, osl, rfl, l, c⟩, k⟩
end
theorem small1000 {n : Nat} (h : n <= 1000) : n < sizeLine := Nat.lt_of_le_of_lt h (by decide)
section
variable {X : Cx}
theorem pv (i : Nat) {x : Str} {pos : Pos} (hN : X.N[i]? = some x := by rfl) (hv : Vis X.env.scope x := by first | exact Or.inl rfl | exact Or.inr (Or.inl rfl) | exact Or.inr (Or.inr rfl)) (hd : (x == ("__debug__" : Str)) = false := by decide)
    (hcd : (x == ("__classdict__" : Str)) = false := by decide) : PE X (.Name x pos) (tVar i) := oU hN hv hd hcd
end
theorem iteF {A B : Prop} (h : B) : if false = true then A else B := by
  rw [if_neg Bool.false_ne_true]
  exact h
theorem iteT {A B : Prop} (h : A) : if true = true then A else B := by
  rw [if_pos rfl]
  exact h
theorem iteNS {c A B : Prop} [Decidable c] (hc : c) (h : B) : if (!decide c) = true then A else B := by
  rw [decide_eq_true hc]
  exact iteF h
def Same (H H' : Hp) : Prop := ∀ b o, H b = some o -> H' b = some o
theorem Same.refl (H : Hp) : Same H H := fun _ _ h => h
theorem Same.trans {H H1 H2 : Hp} (a : Same H H1) (b : Same H1 H2) : Same H H2 := fun c o h => b c o (a c o h)
theorem Same.free {H H' : Hp} (e : Same H H') {l : Addr} (h : H' l = Option.none) : H l = Option.none := by
  cases q : H l with
  | none => rfl
  | some o =>
    rw [e l o q] at h
    cases h
theorem Same.seq {K : PySem.W.Frag} {H H' : Hp} {a : Addr} {xs : List V} (e : Same H H') (h : SqL K H a xs) : SqL K H' a xs := by
  rcases h with (h | ⟨o, h⟩) | h
  . exact .inl (.inl (e _ _ h))
  . exact .inl (.inr ⟨o, e _ _ h⟩)
  . exact .inr h
end L2
namespace L2
open PySem PySem.Spec PyProof.Rows
section
variable {X : Cx}
end
section
variable {κ : Type} [DecidableEq κ]
end
end L2
set_option maxHeartbeats 4400000
namespace L2
open PySem PySem.Spec PyProof.Rows
section
variable {X : Cx}
theorem xK : CallR X (.builtin "isinstance") (fun xs H Q => ∃ x n t b, xs = [x, .ty n] /\ TyOf X.K H x t /\ PySem.W.kitOne X.K t (.type n) = some b /\ Q (.bl b) H) := by
  intro pins s σ H xs us Q I r h
  obtain ⟨x, n, t, b, rfl, ty, e, q⟩ := h
  obtain ⟨u, u', rfl, rx, ry⟩ := vals2 r
  obtain rfl : u' = Value.type n := ry
  exact isinst_ok I rx ty e fun tk => ⟨.bl b, H, I.tok tk, rfl, q⟩
end
theorem ObjOk.there {P : Program} {w : World} {H : Hp} {h : Heap} {a : Addr} {o : HO} (x : ObjOk P w H h a o) : ∃ ob, h.get? a = some ob := by
  cases o with
  | lst xs => obtain ⟨_, _, _, _, e⟩ := x; exact ⟨_, e⟩
  | tup xs => obtain ⟨_, _, _, ob, e, _⟩ := x; exact ⟨ob, e⟩
  | dK kvs => obtain ⟨_, _, _, _, o, _, _, e, _⟩ := x; exact ⟨_, e⟩
  | dT kvs => obtain ⟨_, _, _, _, o, _, _, e, _⟩ := x; exact ⟨_, e⟩
  | set S n => obtain ⟨o, _, _, _, e, _⟩ := x; exact ⟨_, e⟩
  | ins C dx fs => obtain ⟨_, _, _, e, _⟩ := x; exact ⟨_, e⟩
  | own y => obtain ⟨_, e⟩ := x; exact ⟨_, e⟩
  | xd fs => obtain ⟨_, ⟨_, _, _, e, _⟩, _⟩ := x; exact ⟨_, e⟩
  | rng lo hi => obtain ⟨_, _, _, e⟩ := x; exact ⟨_, e⟩
  | frz ob u => obtain ⟨e, _⟩ := x; exact ⟨_, e⟩
  | tbl ps => exact ⟨_, (show h.get? a = some _ from x)⟩
  | met f y => exact ⟨_, (show h.get? a = some _ from x)⟩
  | ext φ => obtain ⟨_, ⟨_, e⟩, _⟩ := x; exact ⟨_, e⟩
theorem ite_t {c A B : Prop} [Decidable c] (hc : c) (h : A) : if decide c = true then A else B := by
  rw [if_pos (decide_eq_true hc)]; exact h
theorem ite_f {c A B : Prop} [Decidable c] (hc : ¬ c) (h : B) : if decide c = true then A else B := by
  rw [if_neg (by rw [decide_eq_false hc]; exact Bool.false_ne_true)]; exact h
theorem gX {c A B : Prop} [Decidable c] (h1 : c -> A) (h2 : ¬ c -> B) : if decide c = true then A else B := by
  by_cases h : c
  . exact ite_t h (h1 h)
  . exact ite_f h (h2 h)
theorem Same.new {H : Hp} {p : Addr} (h : H p = none) (o : HO) : Same H (upd H p o) := fun b u q => by rw [sQ (qQ q h)]; exact q
end L2
namespace L2
open PySem PySem.Spec PyProof.Rows
def clOf (cells : List (Str × Addr)) : List (Str × NameKind) -> List (Str × Addr) -> List (Str × Addr)
  | [], acc => acc
  | (x, k) :: r, acc => if (k == .free) = true then clOf cells r ((x, (cells.lookup x).getD 0) :: acc) else clOf cells r acc
theorem uJ {cells : List (Str × Addr)} {x : Str} {c : Addr} : ∀ {names : List (Str × NameKind)} {acc : List (Str × Addr)}, (clOf cells names acc).lookup x = some c -> acc.lookup x = some c \/ ((cells.lookup x).getD 0 = c /\ (x, NameKind.free) ∈ names)
  | [], acc, h => .inl h
  | (y, k) :: r, acc, h => by
    unfold clOf at h
    by_cases hk : (k == NameKind.free) = true
    . rw [if_pos hk] at h
      have ek : k = .free := by simpa using hk
      rcases uJ h with h | ⟨h, m⟩
      . rw [List.lookup_cons] at h
        cases hx : x == y with
        | true =>
          rw [hx] at h
          have e : x = y := by simpa using hx
          subst e
          exact .inr ⟨Option.some.inj h, by rw [ek]; exact List.mem_cons_self⟩
        | false =>
          rw [hx] at h
          exact .inl h
      . exact .inr ⟨h, List.mem_cons_of_mem _ m⟩
    . rw [if_neg hk] at h
      rcases uJ h with h | ⟨h, m⟩
      . exact .inl h
      . exact .inr ⟨h, List.mem_cons_of_mem _ m⟩
theorem mW {cells : List (Str × Addr)} {x : Str} : ∀ {names : List (Str × NameKind)} {acc : List (Str × Addr)}, ((x, NameKind.free) ∈ names \/ ∃ c, acc.lookup x = some c) -> ∃ c, (clOf cells names acc).lookup x = some c
  | [], acc, h => by
    rcases h with h | h
    . cases h
    . exact h
  | (y, k) :: r, acc, h => by
    unfold clOf
    by_cases hk : (k == NameKind.free) = true
    . rw [if_pos hk]
      apply mW
      by_cases hx : x = y
      . subst hx
        exact .inr ⟨(cells.lookup x).getD 0, by rw [List.lookup_cons, beq_self_eq_true]⟩
      . rcases h with h | ⟨c, h⟩
        . rcases List.mem_cons.mp h with e | h
          . cases e; exact absurd rfl hx
          . exact .inl h
        . refine .inr ⟨c, ?_⟩
          rw [List.lookup_cons]
          have : (x == y) = false := by simpa using hx
          rw [this]
          exact h
    . rw [if_neg hk]
      apply mW
      rcases h with h | h
      . rcases List.mem_cons.mp h with e | h
        . cases e; exact absurd rfl hk
        . exact .inl h
      . exact .inr h
theorem dY {scope : Scope} {env : Env} (h : ∀ y ∈ scope.names, y.2 = .free -> ∃ c, env.cells.lookup y.1 = some c) : closureFor scope env = pure (clOf env.cells scope.names []) := by
  have key : ∀ (names : List (Str × NameKind)) (cs : List (Str × Addr)), (∀ y ∈ names, y.2 = .free -> ∃ c, env.cells.lookup y.1 = some c) ->
      (forIn (m := Sem) names cs fun (x : Str × NameKind) (r : List (Str × Addr)) => (match x with
        | (name, kind) => if (kind == NameKind.free) = true then (do let a <- cellOf env name; pure (ForInStep.yield ((name, a) :: r))) else pure (ForInStep.yield r))) = pure (clOf env.cells names cs) := by
    intro names
    induction names with
    | nil => intro cs _; rfl
    | cons y r ih =>
      intro cs hy
      obtain ⟨x, k⟩ := y
      rw [List.forIn_cons]
      unfold clOf
      by_cases hk : (k == NameKind.free) = true
      . obtain ⟨c, hc⟩ := hy (x, k) List.mem_cons_self (by simpa using hk)
        have hc' : env.cells.lookup x = some c := hc
        have e1 : cellOf env x = pure c := by unfold cellOf; rw [hc']
        simp only [hk, if_true, e1, pure_bind, hc', Option.getD_some]
        exact ih _ fun z hz => hy z (List.mem_cons_of_mem _ hz)
      . simp only [if_neg hk, pure_bind]
        exact ih _ fun z hz => hy z (List.mem_cons_of_mem _ hz)
  have := key scope.names [] h
  simp only [closureFor]
  rw [this]
  rfl
theorem nW {env : Env} : ∀ {names : List (Str × NameKind)} {x : Str}, names.lookup x = some .free ->
    (names.map fun (n, k) => if (k == NameKind.free && env.scope.kind == .function && env.kindOf n == some .cell) then (n, NameKind.cell) else (n, k)).lookup x = some .cell \/
    (names.map fun (n, k) => if (k == NameKind.free && env.scope.kind == .function && env.kindOf n == some .cell) then (n, NameKind.cell) else (n, k)).lookup x = some .free
  | [], _, h => by simp at h
  | (n, k) :: r, x, h => by
    have ih := @nW env r x
    cases hx : x == n with
    | true =>
      rw [List.lookup_cons, hx] at h
      dsimp only at h
      cases h
      by_cases hc : (NameKind.free == NameKind.free && env.scope.kind == .function && env.kindOf n == some .cell) = true
      . left
        rw [List.map_cons]
        show List.lookup x ((if (NameKind.free == NameKind.free && env.scope.kind == .function && env.kindOf n == some .cell) = true then (n, NameKind.cell) else (n, NameKind.free)) :: _) = _
        rw [if_pos hc, List.lookup_cons, hx]
      . right
        rw [List.map_cons]
        show List.lookup x ((if (NameKind.free == NameKind.free && env.scope.kind == .function && env.kindOf n == some .cell) = true then (n, NameKind.cell) else (n, NameKind.free)) :: _) = _
        rw [if_neg hc, List.lookup_cons, hx]
    | false =>
      rw [List.lookup_cons, hx] at h
      dsimp only at h
      rw [List.map_cons]
      show List.lookup x ((if (k == NameKind.free && env.scope.kind == .function && env.kindOf n == some .cell) = true then (n, NameKind.cell) else (n, k)) :: _) = _ \/
        List.lookup x ((if (k == NameKind.free && env.scope.kind == .function && env.kindOf n == some .cell) = true then (n, NameKind.cell) else (n, k)) :: _) = _
      by_cases hc :
        (k == NameKind.free && env.scope.kind == .function && env.kindOf n == some .cell) = true
      . rw [if_pos hc, List.lookup_cons, hx]; exact ih h
      . rw [if_neg hc, List.lookup_cons, hx]; exact ih h
theorem oJ {env : Env} : ∀ {names : List (Str × NameKind)} {x : Str} {k : NameKind}, (names.map fun (n, k) => if (k == NameKind.free && env.scope.kind == .function && env.kindOf n == some .cell) then (n, NameKind.cell) else (n, k)).lookup x = some k ->
    ∃ k', (x, k') ∈ names /\ (k' = k \/ k' = .free)
  | [], _, _, h => by simp at h
  | (n, k0) :: r, x, k, h => by
    have ih := @oJ env r x k
    rw [List.map_cons] at h
    have h' : List.lookup x ((if (k0 == NameKind.free && env.scope.kind == .function && env.kindOf n == some .cell) = true then (n, NameKind.cell) else (n, k0)) :: (r.map fun (n, k) => if (k == NameKind.free && env.scope.kind == .function && env.kindOf n == some .cell) then (n, NameKind.cell) else (n, k))) = some k := h
    cases hx : x == n with
    | true =>
      have e : x = n := by simpa using hx
      subst e
      by_cases hc : (k0 == NameKind.free && env.scope.kind == .function && env.kindOf x == some .cell) = true
      . have ek : k0 = .free := by
          have := (Bool.and_eq_true_iff.mp (Bool.and_eq_true_iff.mp hc).1).1
          simpa using this
        exact ⟨k0, List.mem_cons_self, .inr ek⟩
      . rw [if_neg hc, List.lookup_cons, hx] at h'
        exact ⟨k0, List.mem_cons_self, .inl (Option.some.inj h')⟩
    | false =>
      have h2 : List.lookup x (r.map fun (n, k) => if (k == NameKind.free && env.scope.kind == .function && env.kindOf n == some .cell) then (n, NameKind.cell) else (n, k)) = some k := by
        by_cases hc : (k0 == NameKind.free && env.scope.kind == .function && env.kindOf n == some .cell) = true
        . rw [if_pos hc, List.lookup_cons, hx] at h'; exact h'
        . rw [if_neg hc, List.lookup_cons, hx] at h'; exact h'
      obtain ⟨k', m, e⟩ := ih h2
      exact ⟨k', List.mem_cons_of_mem _ m, e⟩
structure CompScope (outer : Scope) (NX : List Str) (N : List Str) (ix : List (Option Nat)) (scope : Scope) : Prop where
  kind : scope.kind = .function
  nocell : ∀ y ∈ scope.names, y.2 ≠ .cell
  names : ∀ y ∈ scope.names, y.2 = .local -> scope.names.lookup y.1 = some .local
  free : ∀ y ∈ scope.names, y.2 = .free -> outer.names.lookup y.1 = some .cell \/ outer.names.lookup y.1 = some .free
  len : ix.length = N.length
  frees : (N.zip ix).all (fun p => match p.2 with | none => true | some i => NX[i]? == some p.1 && scope.names.lookup p.1 == some .free) = true
def Cx.blk (X : Cx) (N : List Str) (scope : Scope) (C : Addr) (s₀ : Shared) (H₀ : Hp) (ex : List Addr) : Cx :=
  { X with N := N, env := compEnvC scope (clOf X.env.cells scope.names []) C X.env, s₀ := s₀, H₀ := H₀, outer := X.stack, stack := X.stack, ex := ex, fn := fun _ => false, pn := [], xe := fun _ _ => False }
def sgB (ix : List (Option Nat)) (σ : St) : St := ix.map fun o => match o with | none => none | some i => (σ[i]?).getD none
theorem xU {X : Cx} {pins : List (Addr × Obj)} {σ : St} {H : Hp} {s : Shared} {outer : Scope} {NX N : List Str} {ix : List (Option Nat)} {scope : Scope} (I : Inv X pins σ H s) (S : CompScope X.env.scope NX N ix scope) {x : Str} {c : Addr}
    (h : (clOf X.env.cells scope.names []).lookup x = some c) : X.env.cells.lookup x = some c := by
  rcases uJ h with h | ⟨h, m⟩
  . cases h
  . have hk := S.free (x, .free) m rfl
    obtain ⟨c', e⟩ := I.ok.has x hk
    rw [e] at h
    rw [e]
    exact congrArg some h
theorem inv_blk {X : Cx} {pins : List (Addr × Obj)} {σ : St} {H : Hp} {s₃ : Shared} {NX N : List Str} {ix : List (Option Nat)} {scope : Scope} {fp : List Addr} {h₁ : Heap} {t : Nat} (I : Inv X pins σ H s₃) (S : CompScope X.env.scope X.N N ix scope)
    (hf : ∀ b ∈ fp, FpOk X pins H b) (hlt : ∀ b ∈ fp, b < s₃.heap.objs.size) (hns : ∃ m, h₁.Ns s₃.heap.objs.size m) (hk : ∀ b o, s₃.heap.get? b = some o -> h₁.get? b = some o) :
    Inv (X.blk N scope s₃.heap.objs.size s₃ H fp) [] (sgB ix σ) H { s₃ with heap := h₁, toks := t } := by
  have nofr : ∀ b ∈ fp, b ∉ frs X.stack := fun b hb z => by
    rcases List.mem_cons.mp (I.stkSub b z) with e | e
    . exact (hf b hb).2.1 e
    . exact (hf b hb).2.2.1 e
  have clc : ∀ {x : Str} {c : Addr}, (clOf X.env.cells scope.names []).lookup x = some c -> X.env.cells.lookup x = some c := fun h => xU (outer := X.env.scope) I S h
  have ok : (X.blk N scope s₃.heap.objs.size s₃ H fp).Ok := by
    refine ⟨I.ok.mod, S.kind, I.ok.glob, I.ok.blt, Nat.le_refl _, fun x y c h1 h2 => I.ok.inj x y c (clc h1) (clc h2), fun x hx => ?_, fun x c z _ => absurd z (by show ¬ (false = true); decide), I.ok.hd, I.ok.frames, .inl rfl, fun b hb => ⟨Nat.ne_of_lt (hlt b hb), fun x c h => (hf b hb).2.2.2.2.1 x c (clc h)⟩,
      I.bs, Nat.le_trans I.ok.bsz I.sz, fun b o e hb => ?_, nofr, I.stack, I.stkFree⟩
    . have hm : (x, NameKind.free) ∈ scope.names := by
        rcases hx with hx | hx
        . obtain ⟨k', m, e⟩ := oJ (env := X.env) (show (relabel scope X.env).names.lookup x = some .cell from hx)
          rcases e with e | e
          . exact absurd e (S.nocell _ m)
          . rw [e] at m; exact m
        . obtain ⟨k', m, e⟩ := oJ (env := X.env) (show (relabel scope X.env).names.lookup x = some .free from hx)
          rcases e with e | e <;> (rw [e] at m; exact m)
      exact mW (.inl hm)
    . have h0 := (I.ok.bs b o e).1
      rcases (hf b hb).2.2.2.1 with z | z
      . exact I.ok.noex b o e z
      . exact absurd (Nat.lt_of_lt_of_le (Heap.lt_size h0) z) (Nat.lt_irrefl _)
  obtain ⟨m, hn⟩ := hns
  refine ⟨ok, rfl, I.bare, Un.kept hk, ⟨m, hn, fun j x v e1 e2 e3 => ?_⟩, fun x c h => ?_, I.hok.fresh (Nat.le_refl _), fun x c h => I.freeC x c (clc h), fun p hp => absurd (show p ∈ ([] : List (Addr × Obj)) from hp) (by simp), I.hok.kept hk, ?_⟩
  . have e1' : N[j]? = some x := e1
    have e2' : (sgB ix σ)[j]? = some (some v) := e2
    unfold sgB at e2'
    rw [List.getElem?_map] at e2'
    cases eo : ix[j]? with
    | none => rw [eo] at e2'; cases e2'
    | some o =>
      rw [eo] at e2'
      cases o with
      | none => cases e2'
      | some i =>
        have e4 : (σ[i]?).getD none = some v := Option.some.inj e2'
        have hz : (N.zip ix)[j]? = some (x, some i) := by
          rw [List.getElem?_zip_eq_some]; exact ⟨e1', eo⟩
        have ha := List.all_eq_true.mp S.frees _ (List.mem_of_getElem? hz)
        have ha' : (X.N[i]? == some x && scope.names.lookup x == some .free) = true := ha
        obtain ⟨h1, h2⟩ := Bool.and_eq_true_iff.mp ha'
        have hX : X.N[i]? = some x := by simpa using h1
        have hfr : scope.names.lookup x = some .free := by simpa using h2
        have hσ : σ[i]? = some (some v) := by
          cases q : σ[i]? with
          | none => rw [q] at e4; cases e4
          | some w => rw [q] at e4; exact congrArg some e4
        have hm : (x, NameKind.free) ∈ scope.names := PySem.mem_of_lookup hfr
        have hv := S.free _ hm rfl
        obtain ⟨mX, _, hl⟩ := I.loc
        obtain ⟨u, r, l⟩ := hl i x v hX hσ (.inr hv)
        refine ⟨u, r, .inr ⟨nW (env := X.env) hfr, ?_⟩⟩
        rcases l with ⟨k, _⟩ | ⟨_, c, ec, z⟩
        . have k' : X.env.scope.names.lookup x = some .local := k
          rcases hv with hv | hv <;> (rw [hv] at k'; cases k')
        . obtain ⟨c', ec'⟩ := mW (cells := X.env.cells) (acc := []) (.inl hm)
          have : c' = c := Option.some.inj ((clc ec').symm.trans ec)
          subst this
          obtain ⟨o, ho, hd⟩ := z
          exact ⟨c', ec', o, hk _ _ ho, hd⟩
  . obtain ⟨v, o, ho, hd⟩ := I.cell x c (clc h)
    exact ⟨v, o, hk _ _ ho, hd⟩
  . show (sgB ix σ).length = N.length
    unfold sgB
    rw [List.length_map, S.len]
theorem oY {X : Cx} {pins : List (Addr × Obj)} {σ σ' : St} {H H' : Hp} {s₃ s' : Shared} {N : List Str} {scope : Scope} {fp : List Addr} {pins' : List (Addr × Obj)} {h' : Heap} (I : Inv X pins σ H s₃)
    (hf : ∀ b ∈ fp, FpOk X pins H b) (I' : Inv (X.blk N scope s₃.heap.objs.size s₃ H fp) pins' σ' H' s') (hs : Heap.SameBut s₃.heap.objs.size s'.heap h') : Inv X pins σ H' { s' with heap := h' } := by
  have ne : ∀ b o, s₃.heap.get? b = some o -> b ≠ s₃.heap.objs.size := fun b o e => Nat.ne_of_lt (Heap.lt_size e)
  have u : Un (frs X.stack) fp H H' s₃.heap s'.heap := I'.base
  have u' : Un (frs X.stack) fp H H' s₃.heap h' := by
    refine ⟨fun b o e n hb hx => (hs.2 b (ne b o e)).trans (u.keep b o e n hb hx), fun b o e n hb hx => ?_, u.free, fun b o e hx => ?_, u.tups, u.frzs, u.tbls⟩
    . obtain ⟨sl, q⟩ := u.slot b o e n hb hx
      exact ⟨sl, (hs.2 b (ne b o e)).trans q⟩
    . obtain ⟨o', q⟩ := u.there b o e hx
      exact ⟨o', (hs.2 b (ne b o e)).trans q⟩
  have nC : H' s₃.heap.objs.size = none := I'.free
  have hok : HOk X.prog X.w H' h' := fun b o e => by
    refine (I'.hok b o e).stay (fun c v hc q => (hs.2 c ?_).trans q) (fun _ q => q) fun _ _ q => q
    rcases hc with z | z
    . rw [z]; intro w; rw [w] at e; rw [nC] at e; cases e
    . intro w; rw [w] at z; rw [nC] at z; cases z
  exact I.call' (s' := { s' with heap := h' }) (ch := fp) I'.os u' hok I'.bare fun b hb => ⟨(hf b hb).2.2.2.1, (hf b hb).2.1, (hf b hb).2.2.2.2.1, (hf b hb).2.2.2.2.2⟩
def PTs (X : Cx) (ifs : List Expr) (t : TT) : Prop :=
  ∀ (pins : List (Addr × Obj)) (s : Shared) (σ : St) (H : Hp) (Q : Bool -> Hp -> Prop), Inv X pins σ H s -> t σ H Q ->
    wpAny (model X.prog X.w) X.A (forIn ifs true fun c r => if r = true then do let ok <- isTrue c X.env (eval c X.env); pure (ForInStep.yield ok) else pure (ForInStep.yield r)) (TP X pins σ Q) X.xe s
def tTrue : TT := fun _ H Q => Q true H
theorem eJ {X : Cx} : PTs X [] tTrue := fun pins s σ H Q I h => wpAny_tests_nil ⟨H, I, h⟩
theorem oW {X : Cx} {c : Expr} {t : TT} (h : PT X c t) : PTs X [c] t := fun pins s σ H Q I hw => wpAny_tests_one (h pins s σ H Q I hw)
theorem zY {prog : Program} {w : World} {A : Around} {R : Result -> Shared -> Prop} {s : Shared} {elt target iter : Expr} {ifs : List Expr} {scope : Scope} {pos : Pos} {it acc : Value} {env : Env} (I : Nat -> Shared -> Prop)
    (turn : ∀ n s, I n s ->
      wpAny (model prog w) A (pyNext it) (fun r s₁ => match r with
      | none => R (.ok .next) s₁
      | some v => wpAny (model prog w) A (letOwnedTupleGo target it v) (fun _ s₂ => wpAny (model prog w) A (assign target env v) (fun _ s₃ =>
          wpAny (model prog w) A (forIn ifs true fun c r => if r = true then do let ok <- isTrue c env (eval c env); pure (ForInStep.yield ok) else pure (ForInStep.yield r)) (fun ok s₄ =>
            if ok = true then wpAny (model prog w) A (eval elt env) (fun x s₅ =>
              wpAny (model prog w) A (call (.builtin "list.append") [acc, x]) (fun _ s₆ => ∃ m, m < n /\ I m s₆) (fun _ _ => False) s₅) (fun _ _ => False) s₄
            else ∃ m, m < n /\ I m s₄) (fun _ _ => False) s₃) (fun _ _ => False) s₂) (fun _ _ => False) s₁) (fun _ _ => False) s)
    (n : Nat) (h : I n s) : codeAny (model prog w) A (.compLoop (.ListComp elt [⟨target, iter, ifs, 0⟩] scope pos) 0 it acc env) R s := by
  refine codeAny_loop rfl I (fun n s hTurn => ?_) n h
  show wpAny _ A
    ((compTurn (.ListComp elt [⟨target, iter, ifs, 0⟩] scope pos) 0 it acc env).onRaise
      (fun x => do noteFrame x env; theTreesLotGoes x)) _ _ s
  refine wpAny_noted ?_
  rw [compTurn_list]
  have no : ∀ {E : Value -> Shared -> Prop} (x : Value) (s : Shared), False -> E x s := fun _ _ f => f.elim
  refine wpAny_bind (wpAny_standAt (wpAny_bind (wpAny_mono (turn n s hTurn) (fun r s₁ h₁ => ?_) no)))
  cases r with
  | none => exact wpAny_pure h₁
  | some v =>
    refine wpAny_bind (wpAny_mono h₁ (fun _ s₂ h₂ => wpAny_bind (wpAny_mono h₂ (fun _ s₃ h₃ => wpAny_bind (wpAny_mono h₃ (fun ok s₄ h₄ => ?_) no)) no)) no)
    cases ok with
    | false => exact wpAny_pure ⟨rfl, h₄⟩
    | true => exact wpAny_bind (wpAny_bind (wpAny_mono h₄ (fun x s₅ h₅ => wpAny_bind (wpAny_mono h₅ (fun _ s₆ h₆ => wpAny_pure (wpAny_pure ⟨rfl, h₆⟩)) no)) no))
def LcW (J : It) (D : Addr) (g : TG) (tt : TT) (te : TE) (Q : VK) (σ0 : St) (H0 : Hp) : Prop :=
  ∃ W : Nat -> Nat -> List V -> St -> Hp -> Prop, (∃ m, W 0 m [] σ0 H0) /\ ∀ i m ys σ' H', W i m ys σ' H' ->
    ((J.stop i H' /\ Q (.ref D) H') \/ (J.go i H' /\ ∃ N : List V -> St -> Hp -> Prop, (∀ ys' σ2 H2, N ys' σ2 H2 -> ∃ m', m' < m /\ W (i + 1) m' ys' σ2 H2) /\
      ∀ x H2, J.yld i H' x H2 -> g x σ' H2 fun σ3 H3 => tt σ3 H3 fun b H4 => if b = true then te σ3 H4 fun y H5 => H5 D = some (.lst ys) /\ ys.length < sizeLine /\ N (ys ++ [y]) σ3 (upd H5 D (.lst (ys ++ [y]))) else N ys σ3 H4))
def tLc (ix : List (Option Nat)) (wi : TI) (g : TG) (tt : TT) (te : TE) : TE := fun σ H Q => wi σ H fun J H1 => ∀ D, H1 D = none -> LcW J D g tt te Q (sgB ix σ) (upd H1 D (.lst []))
theorem lc_gen {X : Cx} {elt tg iter : Expr} {ifs : List Expr} {scope : Scope} {pos ipos : Pos} {N : List Str} {ix : List (Option Nat)} {wi : TI} {g : TG} {tt : TT} {te : TE} (hc : X.calm = true) (S : CompScope X.env.scope X.N N ix scope) (hi : PI X tg iter wi)
    (hg : ∀ C s₀ H₀ ex, PG (X.blk N scope C s₀ H₀ ex) tg g) (ht : ∀ C s₀ H₀ ex, PTs (X.blk N scope C s₀ H₀ ex) ifs tt) (he : ∀ C s₀ H₀ ex, PE (X.blk N scope C s₀ H₀ ex) elt te)
    (hs : ∀ x, foldedSetIterable iter X.env x = pure x) {pins : List (Addr × Obj)} {s : Shared} {σ : St} {H : Hp} {Q : VK} (I : Inv X pins σ H s) (h : tLc ix wi g tt te σ H Q) (use : Option (Value -> Sem Unit)) (Qv : Value -> Shared -> Prop)
    (fin : ∀ {s₃ s6 : Shared} {H3 H6 : Hp} {σ6 : St} {fp : List Addr} {D : Addr}, Inv X pins σ H3 s₃ -> (∀ b ∈ fp, FpOk X pins H3 b) -> Inv (X.blk N scope s₃.heap.objs.size s₃ H3 fp) [] σ6 H6 s6 -> Q (.ref D) H6 ->
      compPost (model X.prog X.w) X.A X.xe use Qv (.ref D) s₃.heap.objs.size (.ok .next) s6) :
    wpAny (model X.prog X.w) X.A (comprehension (.ListComp elt [⟨tg, iter, ifs, 0⟩] scope pos) scope X.env ipos (newList []) false (eval iter X.env) use) Qv X.xe s := by
  refine wpAny_comprehension_free (use := use) rfl hs (dY fun y hy e => I.ok.has y.1 (S.free y hy e)) S.kind S.names (thn (hi pins s σ H _ I h) fun xv s₁ h₁ => thn h₁ fun itv s₂ h₂ => ?_)
  obtain ⟨it, fp, tn, J, H2, e, I2, T, st2, f2, lc⟩ := h₂
  subst e
  obtain ⟨W, ⟨m0, w0⟩, turn⟩ := lc s₂.heap.objs.size (I2.hok.fresh (Nat.le_refl _))
  refine wpAny_newObj_type (wpAny_newFunctionEnv S.nocell (by intro y hy; simp at hy) (fun h₁ hns₁ hsb₁ => ?_) S.kind)
  have I3 : Inv X pins σ (upd H2 s₂.heap.objs.size (.lst [])) { s₂ with heap := s₂.heap.push { cls := .type "list", dict := none, data := .seq ([] : List Value).toArray } } :=
    I2.laid (t' := s₂.toks) (fun b u e => Heap.get?_push_of_some _ e) (Nat.le_refl _) (show ObjOk X.prog X.w _ _ _ (.lst []) from ⟨Nat.zero_le _, [], 0, .nil, Heap.get?_push_size _ rfl⟩)
  generalize hs3 : ({ s₂ with heap := s₂.heap.push { cls := .type "list", dict := none, data := .seq ([] : List Value).toArray } } : Shared) = s₃ at I3 hns₁ hsb₁ ⊢
  have old : ∀ b o, s₃.heap.get? b = some o -> h₁.get? b = some o := fun b o e => (hsb₁.2 b (Nat.ne_of_lt (Heap.lt_size e))).trans (Heap.get?_push_of_some _ e)
  have old2 : ∀ b o, s₂.heap.get? b = some o -> s₃.heap.get? b = some o := fun b o e => by rw [<- hs3]; exact Heap.get?_push_of_some _ e
  have sz : s₃.heap.objs.size = s₂.heap.objs.size + 1 := by rw [<- hs3]; exact Heap.size_push ..
  have hlt2 : ∀ b ∈ fp, b < s₂.heap.objs.size := fun b hb => by
    obtain ⟨o, e, _⟩ := T.obj 0 _ st2 b hb
    exact Heap.lt_size e
  have hlt : ∀ b ∈ fp, b < s₃.heap.objs.size := fun b hb => by rw [sz]; exact Nat.lt_succ_of_lt (hlt2 b hb)
  have f3 : ∀ b ∈ fp, FpOk X pins (upd H2 s₂.heap.objs.size (.lst [])) b := fun b hb => ⟨by rw [sQ (Nat.ne_of_lt (hlt2 b hb))]; exact (f2 b hb).1, (f2 b hb).2⟩
  have I4 : Inv (X.blk N scope s₃.heap.objs.size s₃ (upd H2 s₂.heap.objs.size (.lst [])) fp) [] (sgB ix σ) (upd H2 s₂.heap.objs.size (.lst [])) { s₃ with heap := h₁, toks := s₃.toks + ([] : List (Str × Value)).length } :=
    inv_blk (NX := X.N) I3 S f3 hlt ⟨_, hns₁⟩ old
  have st4 : tn 0 h₁ := T.keep _ _ _ st2 fun b hb o e => old b o (old2 b o e)
  have fixed : ∀ b ∈ fp, b ≠ s₃.heap.objs.size /\ b ∉ frs X.stack /\ ∀ x c, (clOf X.env.cells scope.names []).lookup x = some c -> c ≠ b := fun b hb =>
    ⟨Nat.ne_of_lt (hlt b hb), I4.ok.exfs b hb, fun x c h => (I4.ok.exf b hb).2 x c h⟩
  have stat : ∀ {H' : Hp}, (∀ b ∈ fp, H' b = none) -> ∀ b ∈ fp, FpOk (X.blk N scope s₃.heap.objs.size s₃ (upd H2 s₂.heap.objs.size (.lst [])) fp) [] H' b := fun hn b hb =>
    ⟨hn b hb, (fixed b hb).1, (fixed b hb).2.1, .inl hb, (fixed b hb).2.2, fun p hp => absurd (show p ∈ ([] : List (Addr × Obj)) from hp) (by simp)⟩
  have loop : codeAny (model X.prog X.w) X.A (.compLoop (.ListComp elt [⟨tg, iter, ifs, 0⟩] scope pos) 0 (.ref it) (.ref s₂.heap.objs.size) (compEnvC scope (clOf X.env.cells scope.names []) s₃.heap.objs.size X.env))
      (compPost (model X.prog X.w) X.A X.xe use Qv (.ref s₂.heap.objs.size) s₃.heap.objs.size) { s₃ with heap := h₁, toks := s₃.toks + ([] : List (Str × Value)).length } := by
    refine zY (fun n s' => ∃ i ys σ' H', Inv (X.blk N scope s₃.heap.objs.size s₃ (upd H2 s₂.heap.objs.size (.lst [])) fp) [] σ' H' s' /\ tn i s'.heap /\ (∀ b ∈ fp, H' b = none) /\ W i n ys σ' H') ?_ m0 ⟨0, [], sgB ix σ, _, I4, st4, fun b hb => (f3 b hb).1, w0⟩
    rintro n s5 ⟨i, ys, σ5, H5, I5, st5, fr5, w5⟩
    rcases turn i n ys σ5 H5 w5 with ⟨stop, qn⟩ | ⟨go, Nn, hN, step⟩
    . refine thn (T.done (X.blk N scope s₃.heap.objs.size s₃ (upd H2 s₂.heap.objs.size (.lst [])) fp) rfl rfl rfl hc i [] s5 σ5 H5 _ I5 (stat fr5) st5 stop) fun r s6 hh => ?_
      obtain ⟨hr, I6⟩ := hh
      subst hr
      exact fin I3 f3 I6 qn
    . refine thn (T.item (X.blk N scope s₃.heap.objs.size s₃ (upd H2 s₂.heap.objs.size (.lst [])) fp) rfl rfl rfl hc i [] s5 σ5 H5 _ I5 (stat fr5) st5 go) fun r s6 hh => ?_
      obtain ⟨u, hr, h6⟩ := hh
      subst hr
      refine thn h6 fun _ s7 hh => ?_
      obtain ⟨x, H7, I7, r7, y7, st7, fr7⟩ := hh
      have I7' := I7.pinned (stat fr7) (T.obj _ _ st7)
      have again : ∀ {ys' : List V} {σ8 : St} {H8 : Hp} {s8 : Shared}, Inv (X.blk N scope s₃.heap.objs.size s₃ (upd H2 s₂.heap.objs.size (.lst [])) fp) ([] ++ pinsAt fp s7.heap) σ8 H8 s8 -> Nn ys' σ8 H8 ->
          ∃ m, m < n /\ ∃ i ys σ' H', Inv (X.blk N scope s₃.heap.objs.size s₃ (upd H2 s₂.heap.objs.size (.lst [])) fp) [] σ' H' s8 /\ tn i s8.heap /\ (∀ b ∈ fp, H' b = none) /\ W i m ys σ' H' := fun {ys' σ8 H8 s8} I8 n8 => by
        obtain ⟨m', hm, w8⟩ := hN ys' σ8 H8 n8
        refine ⟨m', hm, i + 1, ys', σ8, H8, I8.unpinned, T.keep _ _ _ st7 fun b hb o e => (I8.pin (b, o) (List.mem_append_right _ (List.mem_append_right _ (mJ hb e)))).1, fun b hb => ?_, w8⟩
        obtain ⟨o, e, d⟩ := T.obj _ _ st7 b hb
        exact (I8.pin (b, o) (List.mem_append_right _ (List.mem_append_right _ (mJ hb e)))).2.1
      refine thn (hg _ _ _ _ _ s7 σ5 H7 x u _ I7' r7 (step x H7 y7)) fun _ s8 hh => ?_
      obtain ⟨σ8, H8, I8, q8⟩ := hh
      refine thn (ht _ _ _ _ _ s8 σ8 H8 _ I8 q8) fun b s9 hh => ?_
      obtain ⟨H9, I9, q9⟩ := hh
      cases b with
      | false => exact again I9 q9
      | true =>
        refine thn (he _ _ _ _ _ s9 σ8 H9 _ I9 q9) fun v s10 hh => ?_
        obtain ⟨y, H10, I10, r10, hD, hz, n10⟩ := hh
        refine thn (kX _ s10 σ8 H10 (.ref s₂.heap.objs.size) [y] (.ref s₂.heap.objs.size) [v] (fun _ H11 => Nn (ys ++ [y]) σ8 H11) I10 rfl (.cons r10 .nil) ⟨_, ys, y, rfl, rfl, hD, hz, n10⟩) fun _ s11 hh => ?_
        obtain ⟨_, H11, I11, _, n11⟩ := hh
        exact again I11 n11
  refine codeAny_compStart_list loop ?_
  exact T.self X.A 0 _ _ _ st4 loop
theorem hW {X : Cx} (osc : Scope) (NX : List Str) {elt tg iter : Expr} {ifs : List Expr} {scope : Scope} {pos : Pos} {N : List Str} {ix : List (Option Nat)} {wi : TI} {g : TG} {tt : TT} {te : TE} (hc : X.calm = true) (S : CompScope osc NX N ix scope) (hi : PI X tg iter wi)
    (hg : ∀ C s₀ H₀ ex, PG (X.blk N scope C s₀ H₀ ex) tg g) (ht : ∀ C s₀ H₀ ex, PTs (X.blk N scope C s₀ H₀ ex) ifs tt) (he : ∀ C s₀ H₀ ex, PE (X.blk N scope C s₀ H₀ ex) elt te)
    (ho : X.env.scope = osc := by rfl) (hN : X.N = NX := by rfl) (hs : ∀ x, foldedSetIterable iter X.env x = pure x := by intro _; rfl) : PE X (.ListComp elt [⟨tg, iter, ifs, 0⟩] scope pos) (tLc ix wi g tt te) := by
  intro pins s σ H Q I h
  subst ho hN
  rw [eval_ListComp]
  refine lc_gen hc S hi hg ht he hs I h none (EP X pins σ Q) fun {s₃ s6 H3 H6 σ6 fp D} I3 f3 I6 qn => ?_
  obtain ⟨m, hn, _⟩ := I6.loc
  exact ⟨m, hn, fun h' hs' => ⟨.ref D, H6, oY I3 f3 I6 hs', rfl, qn⟩⟩
theorem ps_lc {X : Cx} (osc : Scope) (NX : List Str) {i : Nat} {y : Str} {py spos : Pos} {elt tg iter : Expr} {ifs : List Expr} {scope : Scope} {pos : Pos} {N : List Str} {ix : List (Option Nat)} {wi : TI} {g : TG} {tt : TT} {te : TE} (hc : X.calm = true) (hnd : X.N.Nodup) (hy : X.N[i]? = some y) (hl : Loc X.env.scope y)
    (S : CompScope osc NX N ix scope) (hi : PI X tg iter wi)
    (hg : ∀ C s₀ H₀ ex, PG (X.blk N scope C s₀ H₀ ex) tg g) (ht : ∀ C s₀ H₀ ex, PTs (X.blk N scope C s₀ H₀ ex) ifs tt) (he : ∀ C s₀ H₀ ex, PE (X.blk N scope C s₀ H₀ ex) elt te)
    (ho : X.env.scope = osc := by rfl) (hN : X.N = NX := by rfl) (hs : ∀ x, foldedSetIterable iter X.env x = pure x := by intro _; rfl)
    (hsw : swapsWith (.ListComp elt [⟨tg, iter, ifs, 0⟩] scope pos) (some (.Name y py)) spos.line X.env = pure true := by rfl)
    (hf : X.fn y = true \/ X.env.scope.names.lookup y = some .local := by first | exact .inl rfl | exact .inr rfl | assumption) :
    PS X (.Assign [.Name y py] (.ListComp elt [⟨tg, iter, ifs, 0⟩] scope pos) spos) (tAsg (tLc ix wi g tt te) (gName i)) := by
  intro pins s σ H D I h
  subst ho hN
  rw [exec_Assign_Name_used
    _ _ _ _ hsw]
  refine wpAny_bind
    (wpAny_standAt (wpAny_bind ?_))
  show wpAny _ X.A (do let _ <- comprehension (.ListComp elt [⟨tg, iter, ifs, 0⟩] scope pos) scope X.env _ (newList []) false (eval iter X.env) (some (assign (.Name y py) X.env))) _ _ s
  refine wpAny_bind (wpAny_mono (lc_gen hc S hi hg ht he hs I h (some (assign (.Name y py) X.env)) (fun _ s' => SP X pins D .next s') fun {s₃ s6 H3 H6 σ6 fp Dn} I3 f3 I6 qn => ?_) (fun _ s' hq => wpAny_pure (wpAny_pure hq)) fun _ _ e => e)
  obtain ⟨m, hn, _⟩ := I6.loc
  have I7 : Inv X pins σ H6 s6 := oY I3 f3 I6 (Heap.SameBut.refl ..)
  show wpAny _ X.A (assign (.Name y py) X.env (.ref Dn)) _ _ s6
  refine wpAny_assign_Name (fY I7 hnd hy hl (show RelV (.ref Dn) (.ref Dn) from rfl) (fun s8 I8 ch => ?_) hf)
  obtain ⟨a, hsb, ha⟩ := ch
  have lt3 : ∀ x c, X.env.cells.lookup x = some c -> c ≠ s₃.heap.objs.size := fun x c e z => by
    obtain ⟨v, o, ho, _⟩ := I3.cell x c e
    exact absurd (Heap.lt_size ho) (by rw [z]; exact Nat.lt_irrefl _)
  have nL : X.env.locals ≠ s₃.heap.objs.size := Nat.ne_of_lt I3.lt
  have nCa : s₃.heap.objs.size ≠ a := by
    rcases ha with e | e
    . rw [e]; exact nL.symm
    . exact (lt3 y a e).symm
  have nC : H6 s₃.heap.objs.size = none := I6.free
  refine ⟨m, hn.sameBut hsb nCa, fun h' hs' => ⟨_, H6, I8.turned (t' := s8.toks) (it := s₃.heap.objs.size) (fun b o hb e => (hs'.2 b hb).trans e) nC nL.symm (.inr I3.sz) lt3 (fun p hp z => ?_), qn⟩⟩
  have e := (I3.pin p hp).1
  rw [z] at e
  exact Nat.lt_irrefl _ (Heap.lt_size e)
section
variable {K : PySem.W.Frag} {a D : Addr} {xs : List V} {g : TG} {tt : TT} {te : TE} {σ0 : St} {H0 : Hp} {Q : VK}
theorem pW (Pv : Nat -> List V -> St -> Hp -> Prop) (h0 : Pv 0 [] σ0 H0) (hl : ∀ i ys σ H, i <= xs.length -> Pv i ys σ H -> SqL K H a xs)
    (hs : ∀ i x ys σ H, xs[i]? = some x -> Pv i ys σ H -> g x σ H fun σ3 H3 => tt σ3 H3 fun b H4 => if b = true then te σ3 H4 fun y H5 => H5 D = some (.lst ys) /\ ys.length < sizeLine /\ Pv (i + 1) (ys ++ [y]) σ3 (upd H5 D (.lst (ys ++ [y]))) else Pv (i + 1) ys σ3 H4)
    (hd : ∀ ys σ H, Pv xs.length ys σ H -> Q (.ref D) H) :
    LcW (Itl K a) D g tt te Q σ0 H0 := by
  refine ⟨fun i m ys σ H => m = xs.length - i /\ i <= xs.length /\ Pv i ys σ H, ⟨xs.length, by simp, Nat.zero_le _, h0⟩, ?_⟩
  rintro i m ys σ H ⟨rfl, hi, p⟩
  have q := hl i ys σ H hi p
  by_cases hlt : i < xs.length
  . refine .inr ⟨⟨xs, xs[i], q, by simp [hlt]⟩, fun ys' σ' H' => Pv (i + 1) ys' σ' H', fun ys' σ' H' p' => ⟨xs.length - (i + 1), by omega, rfl, hlt, p'⟩, fun x H' y => ?_⟩
    obtain ⟨e, y⟩ := y
    subst e
    exact hs i x ys σ _ (y xs q) p
  . have e : i = xs.length := by omega
    subst e
    exact .inl ⟨⟨xs, q, Nat.le_refl _⟩, hd ys σ H p⟩
theorem yK {lo : Int} {n : Nat} (Pv : Nat -> List V -> St -> Hp -> Prop) (h0 : Pv 0 [] σ0 H0)
    (hs : ∀ i ys σ H, i < n -> Pv i ys σ H -> g (.int (lo + i)) σ H fun σ3 H3 => tt σ3 H3 fun b H4 => if b = true then te σ3 H4 fun y H5 => H5 D = some (.lst ys) /\ ys.length < sizeLine /\ Pv (i + 1) (ys ++ [y]) σ3 (upd H5 D (.lst (ys ++ [y]))) else Pv (i + 1) ys σ3 H4)
    (hd : ∀ ys σ H, Pv n ys σ H -> Q (.ref D) H) :
    LcW (Itr lo n) D g tt te Q σ0 H0 := by
  refine ⟨fun i m ys σ H => m = n - i /\ i <= n /\ Pv i ys σ H, ⟨n, by simp, Nat.zero_le _, h0⟩, ?_⟩
  rintro i m ys σ H ⟨rfl, hi, p⟩
  by_cases hlt : i < n
  . refine .inr ⟨hlt, fun ys' σ' H' => Pv (i + 1) ys' σ' H', fun ys' σ' H' p' => ⟨n - (i + 1), by omega, rfl, hlt, p'⟩, fun x H' y => ?_⟩
    obtain ⟨e, y⟩ := y
    subst e y
    exact hs i ys σ _ hlt p
  . have e : i = n := by omega
    subst e
    exact .inl ⟨Nat.le_refl _, hd ys σ H p⟩
end
end L2
namespace L2
open PySem PySem.Spec PyProof.Rows
section
variable {X : Cx}
def CDivB (i j : Int) : Prop := 0 < j /\ j.natAbs.log2 < 9000
theorem op_fdivB : OpR X (binaryOp .FloorDiv) (rI CDivB fun i j => .int (i / j)) := opI fun i j _ _ _ _ _ hc q => by
  have h1 : (0 : Int) < j := hc.1
  exact floordiv_int (by omega) (by rw [Int.fdiv_eq_ediv_of_nonneg i (by omega)]; exact q) (.inl (PyProof.noPylong_of_log2 hc.2))
def rSlS : V -> Option Int -> Option Int -> Hp -> VK -> Prop := fun x lo hi H Q => ∃ z, x = .str z /\ z.length <= sizeLine /\ Q (.str (Txt.slice z lo hi)) H
theorem aK : SlR X rSlS := by
  intro pins s σ H x v vl vu lo hi sl Q I rx hs pl pu h
  obtain ⟨z, rfl, hz, q⟩ := h
  obtain ⟨t, rfl⟩ := rx
  refine ⟨"str", _, PySem.F.slot_str_getitem.lookup, typeIs_str _ _ _, ?_⟩
  obtain ⟨o, ho, hc, hd⟩ := hs
  have fin : ∀ (l u : Option (Int × Tok)), l.map (·.1) = lo -> u.map (·.1) = hi -> partValue l = vl -> partValue u = vu -> wpAny (model X.prog X.w) X.A (getItem (.str z t) (.ref sl)) (EP X pins σ Q) X.xe s := fun l u e1 e2 e3 e4 => by
    refine wpAny_getItem_str_slice (l := l) (u := u) (st := none) ⟨o, ho, hc, by rw [e3, e4]; exact hd⟩ rfl ?_
    subst e1 e2
    exact post_val_or_str ⟨Nat.le_trans (Txt.slice_le z _ _) hz, fun t' k => ⟨.str _, H, I.tok k, ⟨t', rfl⟩, q⟩⟩
  cases pl with
  | none =>
    cases pu with
    | none => exact fin none none rfl rfl rfl rfl
    | int j u => exact fin none (some (j, u)) rfl rfl rfl rfl
  | int i ti =>
    cases pu with
    | none => exact fin (some (i, ti)) none rfl rfl rfl rfl
    | int j u => exact fin (some (i, ti)) (some (j, u)) rfl rfl rfl rfl
theorem yU {ys : List Str} : ∀ {us : List Value}, Vals (ys.map V.str) us -> StrsAre us ys := by
  induction ys with
  | nil => intro us r; cases r; exact .nil
  | cons y r ih =>
    intro us h
    cases h with
    | cons a b => obtain ⟨t, rfl⟩ := a; exact .cons _ _ (ih b)
end
theorem ixt {X : Cx} (K : PySem.W.Frag) (h : X.K = K := by rfl) : IxR X (rIxT K) := by
  subst h
  exact xX
def Cal (P : Program) (w : World) (K : PySem.W.Frag) (mg : Str -> Option Value) (base : Heap) (k : Nat) (x : Str) (ps : List Str) (sp : Sp) : Prop :=
  ∃ (f : Addr) (fd : FuncData), FnOk P w K mg base CX0 k f fd ps sp /\ Binds K fd ps [] /\ PySem.W.keepIn K (.ref f) = true /\ mg x = some (.ref f)
theorem Cal.mono {P : Program} {w : World} {K : PySem.W.Frag} {mg : Str -> Option Value} {base : Heap} {j k : Nat} {x : Str} {ps : List Str} {sp : Sp} (c : Cal P w K mg base j x ps sp) (h : j <= k) : Cal P w K mg base k x ps sp := by
  obtain ⟨f, fd, F, b, kp, m⟩ := c
  exact ⟨f, fd, F.mono h, b, kp, m⟩
theorem nQ {X : Cx} {k : Nat} {x : Str} {ps : List Str} {sp : Sp} {p pos : Pos} {e : Expr} {es : List Expr} {t : TA} (c : Cal X.prog X.w X.K X.mg X.base k x ps sp) (hr : Room k X.A) (hg : Gl X x) (ha : PA X (e :: es) t)
    (hdb : (x == ("__debug__" : Str)) = false := by decide) (he : starEach (e :: es) X.env = (false, eval e X.env) :: starEach es X.env := by rfl) (hpl : (backTo pos (starEach es X.env)).any (·.1) = false := by rfl) :
    PE X (.Call (.Name x p) (e :: es) [] pos) (tCall sp [] E0 t) := by
  obtain ⟨f, fd, F, b, kp, m⟩ := c
  exact pe_call F hr hg m kp b .nil pass0 ha hdb he hpl
def Has (K : PySem.W.Frag) (mg : Str -> Option Value) (x : Str) (st : Stmt) (ps : List Str) : Prop := ∃ (f : Addr) (fd : FuncData), Fun K x x st f fd /\ Binds K fd ps [] /\ mg x = some (.ref f)
theorem Has.cal {P : Program} {w : World} {K : PySem.W.Frag} {mg : Str -> Option Value} {base : Heap} {x : Str} {st : Stmt} {N ps : List Str} {k : Nat} {sp : Sp} (h : Has K mg x st ps) (S : FnScope N ps (defScope st)) (len : ∀ vs H Q E, sp vs H Q E -> vs.length = ps.length)
    (hbody : ∀ (f : Addr) (cdv : Value) (A : Around) (outer : List Env) (s : Shared) (H : Hp) (vs : List V) (Q : VK) (E : XK), Room k (A.deeper (envOfC x (defScope st) s.heap.objs.size f cdv)) -> sp vs H Q E ->
      ∃ t, PSs (cxOf CX0 P w K mg base N x (defScope st) f cdv A outer s H E).nox (defBody st) t /\ t { nx := fun _ H' => Q .non H', rt := Q } (start N vs) H) : Cal P w K mg base (k + 1) x ps sp := by
  obtain ⟨f, fd, F, b, m⟩ := h
  exact ⟨f, fd, F.ok S len fun cdv A outer s H vs Q E hr h => hbody f cdv A outer s H vs Q E hr h, b, F.kp, m⟩
theorem Has.none {P : Program} {w : World} {K : PySem.W.Frag} {mg : Str -> Option Value} {base : Heap} {x : Str} {st : Stmt} {ps : List Str} {k : Nat} {sp : Sp} (h : Has K mg x st ps) (no : ∀ vs H Q E, ¬ sp vs H Q E) : Cal P w K mg base k x ps sp := by
  obtain ⟨f, fd, F, b, m⟩ := h
  exact ⟨f, fd, ⟨fun vs H Q E h => absurd h (no vs H Q E), fun A outer s H args us vs Q E _ _ _ _ h => absurd h (no vs H Q E)⟩, b, F.kp, m⟩
theorem Has.mk {K : PySem.W.Frag} {h : Heap} {mg : Str -> Option Value} {x : Str} {st : Stmt} {ps : List Str} {f : Addr} {oc : Value} {od an : Option Addr} {osl : Array (Option Value)} {kV doc pm cdv ct : Value} (X : K.In h) (G : h.Ns mainGlobals mg)
    (a : PySem.W.nsIn K mainGlobals x = some (some (.ref f))) (l : K.lookup f = some ⟨oc, od, .func (PySem.W.fnOf x x (defArgs st) (defBody st) (defScope st) .none kV doc pm an cdv ct), osl⟩) (c : PySem.W.codeIn K cdv x = true) (k : PySem.W.keepIn K (.ref f) = true)
    (hb : ∀ (kV doc pm : Value) (an : Option Addr) (cdv ct : Value) (us : List Value), us.length = ps.length -> bindArgs (PySem.W.fnOf x x (defArgs st) (defBody st) (defScope st) .none kV doc pm an cdv ct) ⟨us, []⟩ = pure (ps.zip us)) : Has K mg x st ps :=
  ⟨f, _, wU (st := st) l c k, (wU (st := st) l c k).binds hb, PySem.W.mg_of X G a⟩
end L2
namespace L2
open PySem PySem.Spec PyProof.Rows
section
variable {prog : Program} {w : World} {A : Around} {E : Value -> Shared -> Prop} {s : Shared}
end
theorem Inv.turnedL {X : Cx} {pins : List (Addr × Obj)} {σ : St} {H : Hp} {s : Shared} {h' : Heap} {t' : Nat} {fp : List Addr} (I : Inv X pins σ H s) (k : ∀ b o, b ∉ fp -> s.heap.get? b = some o -> h'.get? b = some o) (hf : ∀ b ∈ fp, FpOk X pins H b) : Inv X pins σ H { s with heap := h', toks := t' } := by
  have nit : ∀ b u, H b = some u -> b ∉ fp := fun b u e z => by rw [(hf b z).1] at e; cases e
  refine I.step (g' := s.gens) (d' := s.drawn) (ch := fp) (fun b hb => ⟨(hf b hb).2.2.2.1, (hf b hb).2.1, (hf b hb).2.2.2.2.1, (hf b hb).2.2.2.2.2⟩) (fun b o _ _ hc e _ => k b o hc e) (fun b o _ _ hc e _ => ⟨o.slots, k b o hc e⟩) (fun _ _ _ _ n => n)
    (fun b o hc e => ⟨o, k b o hc e⟩) (fun _ _ e => e) (fun _ _ _ e => e) (fun b ps e => ⟨#[], by rw [e]; simp⟩) (fun m ⟨o, es, ep, ho, r⟩ => ⟨o, es, ep, k _ o (fun z => (hf _ z).2.1 rfl) ho, r⟩) (fun b u e => ?_) I.bare
  refine (I.hok b u e).stay (fun c v hc q => k c v ?_ q) (fun _ q => q) fun _ _ q => q
  rcases hc with z | z
  . rw [z]; exact nit b u e
  . exact nit c _ z
section
variable {K : PySem.W.Frag} {a b D : Addr} {xs ys : List V} {g : TG} {tt : TT} {te : TE} {σ0 : St} {H0 : Hp} {Q : VK}
end
section
variable {prog : Program} {w : World} {A : Around} {E : Value -> Shared -> Prop} {s : Shared} {KT : Type} [DecidableEq KT] {knd : KeyKind prog w KT}
def PairsAt (knd : KeyKind prog w KT) (h : Heap) (its : Array Value) (kvs : List (KT × Value)) : Prop :=
  its.size = kvs.length /\ ∀ (i : Nat) (v : Value), its[i]? = some v -> ∃ (p : Addr) (key val : Value) (k : KT), v = .ref p /\ h.IsTuple p #[key, val] /\ kvs[i]? = some (k, val) /\ knd.is k key = true
theorem PairsAt.kept {h h' : Heap} {its : Array Value} {kvs : List (KT × Value)} (x : PairsAt knd h its kvs) (k : ∀ (i : Nat) (p : Addr), its[i]? = some (.ref p) -> ∀ o, h.get? p = some o -> h'.get? p = some o) : PairsAt knd h' its kvs :=
  ⟨x.1, fun i v e => by
    obtain ⟨p, key, val, kk, rfl, ⟨o, ho, r⟩, e2, e3⟩ := x.2 i v e
    exact ⟨p, key, val, kk, rfl, ⟨o, k i p e o ho, r⟩, e2, e3⟩⟩
end
theorem pgt {X : Cx} (K : PySem.W.Frag) {es : List Expr} {k : Nat} {pos : Pos} {t : TGs} (n : Nat) (hc : X.calm = true) (h : PGs X es t) (hK : X.K = K := by rfl)
    (hn : (assignEach es X.env).length = n := by rfl) (hst : (assignEach es X.env).findIdx? (·.1) = none := by rfl) : PG X (.Tuple es k pos) (gTup K n t) := by
  subst hK
  exact iW hc h hn hst
end L2
namespace L2
open PySem PySem.Spec PyProof.Rows
def But (r : Addr) (H H' : Hp) : Prop := ∀ b o, b ≠ r -> H b = some o -> H' b = some o
theorem But.trans {r : Addr} {H H1 H2 : Hp} (a : But r H H1) (b : But r H1 H2) : But r H H2 := fun c o n h => b c o n (a c o n h)
theorem But.of {r : Addr} {H H' : Hp} (a : Same H H') : But r H H' := fun c o _ h => a c o h
theorem But.upd {r : Addr} {H : Hp} (o : HO) : But r H (upd H r o) := fun c u n h => by rw [sQ n]; exact h
theorem But.refl (r : Addr) (H : Hp) : But r H H := fun _ _ _ h => h
theorem But.new {r p : Addr} {H : Hp} (h : H p = none) (o : HO) : But r H (L2.upd H p o) := .of (Same.new h o)
theorem But.same {r : Addr} {H H' : Hp} (b : But r H H') (h : H r = none) : Same H H' := fun c o e => b c o (fun z => by rw [z, h] at e; cases e) e
def Few (many : Int) : Prop := 0 < many /\ many.natAbs.log2 < 9000
theorem yQ {m : Int} (h : 0 < m) (h2 : m < 1073741824) : Few m := ⟨h, by
  have : m.natAbs ≠ 0 := by omega
  have h30 : m.natAbs.log2 < 30 := (Nat.log2_lt this).mpr (by omega)
  omega⟩
theorem cm {a b : Int} (h : 0 <= a) (h2 : a < 10000000000) : CMul a b := .inl ⟨by omega, by omega⟩
theorem cmr {a b : Int} (h : 0 <= b) (h2 : b < 10000000000) : CMul a b := .inr ⟨by omega, by omega⟩
theorem p1018 : CPow 10 18 := ⟨by decide, by decide, by decide⟩
theorem small {n : Nat} (h : n <= 1000) : n <= sizeLine := Nat.le_of_lt (small1000 h)
theorem sz {n : Nat} (h : n <= 8388608) : n < sizeLine := Nat.lt_of_le_of_lt h (by decide)
theorem sz' {n : Nat} (h : n <= 8388608) : n <= sizeLine := Nat.le_of_lt (sz h)
theorem pJ {t R : TS} {D : Ends} {σ : St} {H : Hp} (J : St -> Hp -> Prop) (h : ∀ R' : St -> Hp -> Prop, (∀ σ' H', J σ' H' -> R' σ' H') -> t { D with nx := R' } σ H) (hR : ∀ σ' H', J σ' H' -> R D σ' H') : tSeq t R D σ H := h (R D) hR
theorem gset {i : Nat} {v : V} {σ : St} {H : Hp} {t R : TS} {D : Ends} {rt : VK} {bk ct : St -> Hp -> Prop} (h : tSeq t R D (σ.set i (some v)) H) : gName i v σ H (Ends.nx ⟨tSeq t R D, rt, bk, ct⟩) := h
theorem But.none {r p : Addr} {H H' : Hp} (b : But r H H') (hr : p ≠ r) (h : H' p = none) : H p = none := by
  cases e : H p with
  | none => rfl
  | some o => rw [b p o hr e] at h; cases h
theorem But.put {r p : Addr} {H H' : Hp} {o : HO} (b : But r H H') (h : H p = .none) : But r H (L2.upd H' p o) := fun c u n e => by
  rw [sQ (qQ e h)]
  exact b c u n e
def All2 {α β : Type} (R : α -> β -> Prop) (xs : List α) (ys : List β) : Prop := xs.length = ys.length /\ ∀ (i : Nat) x y, xs[i]? = some x -> ys[i]? = some y -> R x y
theorem All2.nil {α β : Type} {R : α -> β -> Prop} : All2 R [] [] := ⟨rfl, fun i x y h => by simp at h⟩
theorem All2.mono {α β : Type} {R S : α -> β -> Prop} {xs : List α} {ys : List β} (h : All2 R xs ys) (f : ∀ x y, R x y -> S x y) : All2 S xs ys := ⟨h.1, fun i x y a b => f x y (h.2 i x y a b)⟩
theorem All2.snoc {α β : Type} {R : α -> β -> Prop} {xs : List α} {ys : List β} {x : α} {y : β} (h : All2 R xs ys) (r : R x y) : All2 R (xs ++ [x]) (ys ++ [y]) := by
  have hl := h.1
  refine ⟨by simp [hl], fun i a b ha hb => ?_⟩
  by_cases hi : i < xs.length
  . rw [List.getElem?_append_left hi] at ha
    rw [List.getElem?_append_left (by omega)] at hb
    exact h.2 i a b ha hb
  . rw [List.getElem?_append_right (by omega)] at ha
    rw [List.getElem?_append_right (by omega)] at hb
    have hl2 := (List.getElem?_eq_some_iff.mp ha).1
    have e : i - xs.length = 0 := by simp at hl2; omega
    rw [e] at ha
    rw [show i - ys.length = 0 by omega] at hb
    cases ha
    cases hb
    exact r
theorem All2.get {α β : Type} {R : α -> β -> Prop} {xs : List α} {ys : List β} (h : All2 R xs ys) {i : Nat} (hi : i < ys.length) : ∃ x y, xs[i]? = some x /\ ys[i]? = some y /\ R x y := by
  have hx : i < xs.length := by rw [h.1]; exact hi
  exact ⟨xs[i], ys[i], List.getElem?_eq_getElem hx, List.getElem?_eq_getElem hi, h.2 i _ _ (List.getElem?_eq_getElem hx) (List.getElem?_eq_getElem hi)⟩
theorem All2.at {α β : Type} {R : α -> β -> Prop} {xs : List α} {ys : List β} (h : All2 R xs ys) {i : Nat} {x : α} (e : xs[i]? = some x) : ∃ y, ys[i]? = some y /\ R x y := by
  have hi : i < ys.length := by rw [<- h.1]; exact (List.getElem?_eq_some_iff.mp e).1
  exact ⟨ys[i], List.getElem?_eq_getElem hi, h.2 i x _ e (List.getElem?_eq_getElem hi)⟩
def GI (mg : Str -> Option Value) (x : Str) (n : Int) : Prop := ∃ t, mg x = some (.int n t)
end L2
namespace L2
open PySem PySem.Spec PyProof.Rows
section
variable {X : Cx}
def tRevL (K : PySem.W.Frag) (te ts : TE) : TE := fun σ H Q => te σ H fun x H1 => ts σ H1 fun y H2 => y = .int (-1) /\ ∃ a xs, x = .ref a /\ SqL K H2 a xs /\ ∀ p, H2 p = none -> Q (.ref p) (upd H2 p (.lst xs.reverse))
theorem pe_rev {e st : Expr} {te ts : TE} {p2 pos : Pos} (he : PE X e te) (hs : PE X st ts) : PE X (.Subscript e (.Slice none none (some st) p2) pos) (tRevL X.K te ts) := by
  intro pins s σ H Q I h
  refine Subscript_ (thn (he pins s σ H _ I h) fun v s1 hh => ?_)
  obtain ⟨x, H1, I1, r1, q1⟩ := hh
  refine wpAny_Slice ?_
  rw [evalPart_none]
  refine wpAny_pure ?_
  refine wpAny_pure ?_
  show wpAny _ _ (eval st X.env) _ _ _
  refine thn (hs pins s1 σ H1 _ I1 q1) fun vs s3 hh => ?_
  obtain ⟨y, H3, I3, ry, ey, a, xs, ex, hx, q3⟩ := hh
  subst ey ex
  obtain ⟨t, rfl⟩ := ry
  cases r1
  have I4 : Inv X pins σ H3 { s3 with heap := s3.heap.push { cls := .type "slice", data := .fields #[.none, .none, .int (-1) t] } } := I3.kept (t' := s3.toks) fun b ob q => Heap.get?_push_of_some _ q
  obtain ⟨its, r, ht, hz⟩ := I4.list hx
  refine tail_any (T := "list") (ops := [.ref a, .ref s3.heap.objs.size]) ht.isList.typeIs slot_list_getitem.lookup ?_ (by with_unfolding_all rfl)
  refine wpAny_getItem_list_slice ht.isList (Heap.IsSliceOf.new ..) .none .none (.int (-1) t) (by simp) ?_ (by rw [List.size_toArray, <- r.length]; exact hz)
  rw [PySem.W.krv_pick]
  refine ⟨.ref _, _, I4.laid (t' := s3.toks) (o := .lst xs.reverse) (fun b ob q => Heap.get?_push_of_some _ q) (Nat.le_refl _) ?_, rfl, q3 _ (I4.hok.fresh (Nat.le_refl _))⟩
  exact ⟨by rw [List.length_reverse]; exact hz, its.reverse, 0, r.reverse, by rw [List.toList_toArray]; exact Heap.get?_push_size _ rfl⟩
end
def Ite (a : Addr) : It :=
  ⟨fun i H => ∃ xs x, H a = some (.lst xs) /\ xs[i]? = some x, fun i H v H' => ∃ T x, v = .ref T /\ H T = none /\ H' = upd H T (.tup [.int (i : Nat), x]) /\ ∀ xs, H a = some (.lst xs) -> xs[i]? = some x,
    fun i H => ∃ xs, H a = some (.lst xs) /\ xs.length <= i⟩
def EnSt (e it a : Addr) (i : Nat) (h : Heap) : Prop := (∃ old, IsEnum h e it (i : Nat) old) /\ h.IsListIter it a i
theorem turn_enum {P : Program} {w : World} {K : PySem.W.Frag} {es : List Expr} {kt : Nat} {tp : Pos} {e it a : Addr} (hne : e ≠ it) : Turn P w K (.Tuple es kt tp) (Ite a) [e, it] e (EnSt e it a) where
  mem := by simp
  obj := fun i h st c hc => by
    obtain ⟨⟨old, h1⟩, ⟨o4, h4, _, d4⟩⟩ := st
    simp only [List.mem_cons, List.not_mem_nil, or_false] at hc
    rcases hc with rfl | rfl
    . exact ⟨_, h1, fun v z => by cases z⟩
    . exact ⟨_, h4, fun v z => by rw [d4] at z; cases z⟩
  keep := fun i h h' st k => by
    obtain ⟨⟨old, h1⟩, ⟨o4, h4, r4⟩⟩ := st
    exact ⟨⟨old, k _ (by simp) _ h1⟩, ⟨o4, k _ (by simp) _ h4, r4⟩⟩
  item := by
    intro X hP hw hK hc i pins s σ H E I hf st hg
    subst hP hw hK
    obtain ⟨xs, x, hx, ex⟩ := hg
    obtain ⟨⟨old, h1⟩, h4⟩ := st
    obtain ⟨its, rv, p, _⟩ := I.list (SqL.of hx)
    obtain ⟨u, hu, ru⟩ := rv.get ex
    refine wpAny_pyNext_enum_item h1 h4 p.isList (x := u) (by simpa using hu) hne fun h' a1 a2 a3 a4 hk => ?_
    refine ⟨_, rfl, wpAny_letOwnedTupleGo_enum a1 fun h2' b1 hs => ?_⟩
    have hT : H s.heap.objs.size = none := I.hok.fresh (Nat.le_refl _)
    have I1 : Inv X pins σ (upd H s.heap.objs.size (.tup [.int (i : Nat), x])) { s with heap := s.heap.push { cls := .type "tuple", data := .seq #[.int i s.toks, u] } } :=
      I.laid (t' := s.toks) (fun c o e => Heap.get?_push_of_some _ e) (Nat.le_refl _) (show ObjOk X.prog X.w _ _ _ (.tup [.int (i : Nat), x]) from ⟨(by show 2 <= sizeLine; decide), [.int i s.toks, u], .cons ⟨_, rfl⟩ (.cons ru .nil), _, Heap.get?_push_size _ rfl, rfl, _, rfl⟩)
    have lt : ∀ c ∈ [e, it], c < s.heap.objs.size := fun c hc => by
      obtain ⟨o4, e4, _⟩ := h4
      simp only [List.mem_cons, List.not_mem_nil, or_false] at hc
      rcases hc with rfl | rfl
      . exact Heap.lt_size h1
      . exact Heap.lt_size e4
    have hf1 : ∀ c ∈ [e, it], FpOk X pins (upd H s.heap.objs.size (.tup [.int (i : Nat), x])) c := fun c hc => ⟨by rw [sQ (Nat.ne_of_lt (lt c hc))]; exact (hf c hc).1, (hf c hc).2⟩
    have kk : ∀ c o, c ∉ [e, it] -> (s.heap.push { cls := .type "tuple", data := .seq #[.int i s.toks, u] }).get? c = some o -> h2'.get? c = some o := fun c o nc eo => by
      simp only [List.mem_cons, List.not_mem_nil, or_false, not_or] at nc
      obtain ⟨n1, n2⟩ := nc
      rcases Heap.get?_push_cases eo with ⟨rfl, rfl⟩ | e'
      . exact (hs.2 _ n1).trans a3
      . exact (hs.2 _ n1).trans (hk c o n1 n2 e')
    have I2 := I1.turnedL (t' := s.toks + 1) (h' := h2') kk hf1
    refine ⟨.ref s.heap.objs.size, _, I2, rfl, ⟨_, x, rfl, hT, rfl, fun zs hz => ?_⟩, ⟨⟨u, ?_⟩, a2.extBut hs.extBut hne.symm⟩, fun c hc => (hf1 c hc).1⟩
    . rw [hx] at hz
      cases hz
      exact ex
    . simpa using b1
  done := by
    intro X hP hw hK hc i pins s σ H E I hf st hg
    subst hP hw hK
    obtain ⟨xs, hq, hx⟩ := hg
    obtain ⟨⟨old, h1⟩, h4⟩ := st
    obtain ⟨its, rv, p, hz⟩ := I.list (SqL.of hq)
    have hl := rv.length
    refine wpAny_pyNext_enum_end (I.ok.hd hc) h1 h4 p.isList (by simp; omega) fun h' hk => ⟨rfl, I.turnedL (t' := s.toks) (fp := [e, it]) (fun c o nc eo => ?_) hf⟩
    simp only [List.mem_cons, List.not_mem_nil, or_false, not_or] at nc
    exact hk c o nc.2 eo
  self := fun _ _ _ _ _ st h => by
    obtain ⟨⟨old, h1⟩, _⟩ := st
    exact wpAny_pyIter_enum h1 h
def iEnum (ta : TA) : TI := fun σ H R => ta σ H fun vs H1 => ∃ a, vs = [.ref a] /\ (∃ xs, H1 a = some (.lst xs)) /\ R (Ite a) H1
theorem bt_enum : bootBuiltins "enumerate" = some (.type "enumerate") := by decide +kernel
theorem uO {X : Cx} {es : List Expr} {kt : Nat} {tp : Pos} {a : Expr} {ta : TA} {p pos : Pos} (hg : Gl X "enumerate") (hm : X.mg "enumerate" = none) (ha : PA X [a] ta) (hs : starEach [a] X.env = [(false, eval a X.env)] := by rfl) :
    PI X (.Tuple es kt tp) (.Call (.Name "enumerate" p) [a] [] pos) (iEnum ta) := by
  intro pins s σ H R I h
  refine Call_ (vW I hg hm bt_enum (PyProof.Rows.callWith_type1 (thn (ha pos pins s σ H _ I h) fun us s1 hh => ?_) (by rw [hs]; rfl) (by rfl)))
  obtain ⟨vs, H1, I1, r1, q1⟩ := hh
  obtain ⟨x, e, ⟨xs, hx⟩, q⟩ := q1
  subst e
  obtain ⟨u, rfl, ru⟩ := vals1 r1
  cases ru
  obtain ⟨z, its, n, r, hl, e⟩ := I1.lstM hx
  refine call_enumerate_1 e fun h' g1 g2 gz hk => ?_
  refine wpAny_pyIter_enum g1 ?_
  refine ⟨s1.heap.objs.size + 1, [s1.heap.objs.size + 1, s1.heap.objs.size], _, _, H1, rfl, I1.kept (t' := s1.toks) hk, turn_enum (Nat.succ_ne_self _), ⟨⟨_, by simpa using g1⟩, g2⟩, fun c hc => ?_, q⟩
  have hle : s1.heap.objs.size <= c := by
    simp only [List.mem_cons, List.not_mem_nil, or_false] at hc
    rcases hc with e | e <;> rw [e]
    . exact Nat.le_add_right _ 1
    . exact Nat.le_refl _
  exact I1.fpOk hle (I1.hok.fresh hle)
theorem zK {a : Addr} {xs : List V} {g : TG} {tb : TS} {D : Ends} {σ : St} {H : Hp} (Pv : Nat -> St -> Hp -> Prop) (h0 : Pv 0 σ H) (hl : ∀ i σ H, i <= xs.length -> Pv i σ H -> H a = some (.lst xs))
    (hs : ∀ i x σ H T, xs[i]? = some x -> Pv i σ H -> H T = none -> g (.ref T) σ (upd H T (.tup [.int (i : Nat), x])) fun σ2 H2 => tb { D with nx := Pv (i + 1), ct := Pv (i + 1), bk := D.nx } σ2 H2) (hd : ∀ σ H, Pv xs.length σ H -> D.nx σ H) :
    ∃ W : Nat -> Nat -> St -> Hp -> Prop, (∃ m, W 0 m σ H) /\ ∀ i m σ H, W i m σ H ->
      ((Ite a).stop i H /\ D.nx σ H) \/ ((Ite a).go i H /\ ∃ N : St -> Hp -> Prop, (∀ σ' H', N σ' H' -> ∃ m', m' < m /\ W (i + 1) m' σ' H') /\ ∀ x H', (Ite a).yld i H x H' -> g x σ H' fun σ2 H2 => tb { D with nx := N, ct := N, bk := D.nx } σ2 H2) := by
  refine ⟨fun i m σ H => m = xs.length - i /\ i <= xs.length /\ Pv i σ H, ⟨xs.length, by simp, Nat.zero_le _, h0⟩, ?_⟩
  rintro i m σ H ⟨rfl, hi, p⟩
  have q := hl i σ H hi p
  by_cases hlt : i < xs.length
  . refine .inr ⟨⟨xs, xs[i], q, by simp [hlt]⟩, Pv (i + 1), fun σ' H' p' => ⟨xs.length - (i + 1), by omega, rfl, hlt, p'⟩, fun x H' y => ?_⟩
    obtain ⟨T, z, rfl, hT, rfl, y⟩ := y
    exact hs i z σ H T (y xs q) p hT
  . have e : i = xs.length := by omega
    subst e
    exact .inl ⟨⟨xs, q, Nat.le_refl _⟩, hd σ H p⟩
end L2
namespace L2
open PySem PySem.Spec PyProof.Rows
def Alk (H : Hp) : Nat -> V -> V -> Prop
  | 0, _, _ => False
  | n + 1, x, y => (x = y /\ (flatV x = true \/ ∃ a, x = .ref a)) \/
      ∃ a b xs ys, x = .ref a /\ y = .ref b /\ ((H a = some (.tup xs) /\ H b = some (.tup ys)) \/ (H a = some (.lst xs) /\ H b = some (.lst ys))) /\ xs.length = ys.length /\ ys.length <= 8388608 /\
        ∀ (i : Nat) (x y : V), xs[i]? = some x -> ys[i]? = some y -> Alk H n x y
theorem eqV_self {x : V} (h : flatV x = true) : eqV x x = true := by
  cases x <;> first | rfl | (cases h; done) | simp [eqV]
def Pl (x : V) : Prop := flatV x = true \/ ∃ a, x = .ref a
theorem Alk.rfl' {H : Hp} (n : Nat) {x : V} (h : Pl x) : Alk H (n + 1) x x := .inl ⟨rfl, h⟩
theorem vO {H : Hp} {n : Nat} {a b : Addr} {xs ys : List V} (h1 : H a = some (.tup xs)) (h2 : H b = some (.tup ys)) (hl : xs.length = ys.length) (hz : ys.length <= 8388608) (h : ∀ (i : Nat) (x y : V), xs[i]? = some x -> ys[i]? = some y -> Alk H n x y) : Alk H (n + 1) (.ref a) (.ref b) :=
  .inr ⟨a, b, xs, ys, rfl, rfl, .inl ⟨h1, h2⟩, hl, hz, h⟩
theorem wO {H : Hp} {n : Nat} {a b : Addr} {xs ys : List V} (h1 : H a = some (.lst xs)) (h2 : H b = some (.lst ys)) (hl : xs.length = ys.length) (hz : ys.length <= 8388608) (h : ∀ (i : Nat) (x y : V), xs[i]? = some x -> ys[i]? = some y -> Alk H n x y) : Alk H (n + 1) (.ref a) (.ref b) :=
  .inr ⟨a, b, xs, ys, rfl, rfl, .inr ⟨h1, h2⟩, hl, hz, h⟩
theorem alk_same {H : Hp} {a b : Addr} {xs : List V} (n : Nat) (h1 : H a = some (.lst xs)) (h2 : H b = some (.lst xs)) (hz : xs.length <= 8388608) (h : ∀ x ∈ xs, Pl x) : Alk H (n + 2) (.ref a) (.ref b) :=
  wO h1 h2 rfl hz fun i x y e1 e2 => by
    rw [e1] at e2
    cases e2
    exact Alk.rfl' n (h x (List.mem_of_getElem? e1))
theorem xW {H : Hp} {a b : Addr} {xs : List V} (n : Nat) (h1 : H a = some (.tup xs)) (h2 : H b = some (.tup xs)) (hz : xs.length <= 8388608) (h : ∀ x ∈ xs, Pl x) : Alk H (n + 2) (.ref a) (.ref b) :=
  vO h1 h2 rfl hz fun i x y e1 e2 => by
    rw [e1] at e2
    cases e2
    exact Alk.rfl' n (h x (List.mem_of_getElem? e1))
theorem alk_pair {H : Hp} {n : Nat} {a b : Addr} {x y x' y' : V} (h1 : H a = some (.tup [x, y])) (h2 : H b = some (.tup [x', y'])) (hx : Alk H n x x') (hy : Alk H n y y') : Alk H (n + 1) (.ref a) (.ref b) :=
  vO h1 h2 rfl (by show 2 <= 8388608; decide) fun i u v e1 e2 => by
    rcases i with _ | _ | i
    . cases e1; cases e2; exact hx
    . cases e1; cases e2; exact hy
    . simp at e1
theorem pZ {n : Nat} {e : Nat -> Bool} (h : ∀ j, j < n -> e j = true) : (List.range n).all e = true := List.all_eq_true.mpr fun j hj => h j (List.mem_range.mp hj)
section
variable {X : Cx} {pins : List (Addr × Obj)} {σ : St} {H : Hp} {s : Shared}
theorem vJ (I : Inv X pins σ H s) {a : Addr} {xs : List V} (h : H a = some (.tup xs)) : ∃ its : List Value, Vals xs its /\ s.heap.IsTuple a its.toArray := by
  obtain ⟨its, r, pl, hz⟩ := I.tuple (SqT.of (K := X.K) h)
  exact ⟨its, r, pl⟩
theorem wJ (I : Inv X pins σ H s) {a : Addr} {xs : List V} (h : H a = some (.lst xs)) : ∃ its : List Value, Vals xs its /\ s.heap.IsList a its.toArray := by
  obtain ⟨its, r, pl, hz⟩ := I.list (SqL.of (K := X.K) h)
  exact ⟨its, r, pl.isList⟩
theorem jJ {xs ys : List V} {us ws : List Value} {A : Around} {R : V -> V -> Bool -> Prop} (ru : Vals xs us) (rw' : Vals ys ws) {e : Nat -> Bool} (h : ∀ (i : Nat) (x y : V) (u w : Value), xs[i]? = some x -> ys[i]? = some y -> RelV x u -> RelV y w -> SeqAt.EqAt A s u w (e i)) :
    ∀ j (h1 : j < us.toArray.size) (h2 : j < ws.toArray.size), SeqAt.EqAt A s us.toArray[j] ws.toArray[j] (e j) := fun j h1 h2 => by
  have l1 := ru.length
  have l2 := rw'.length
  have hj1 : j < xs.length := by simp at h1; omega
  have hj2 : j < ys.length := by simp at h2; omega
  obtain ⟨u, eu, r1⟩ := ru.get (i := j) (x := xs[j]) (List.getElem?_eq_getElem hj1)
  obtain ⟨w, ew, r2⟩ := rw'.get (i := j) (x := ys[j]) (List.getElem?_eq_getElem hj2)
  have e1 : us.toArray[j] = u := by
    have : us[j]? = some u := eu
    simp only [List.getElem_toArray]
    exact Option.some.inj ((List.getElem?_eq_getElem (by simpa using h1)).symm.trans this)
  have e2 : ws.toArray[j] = w := by
    have : ws[j]? = some w := ew
    simp only [List.getElem_toArray]
    exact Option.some.inj ((List.getElem?_eq_getElem (by simpa using h2)).symm.trans this)
  rw [e1, e2]
  exact h j _ _ u w (List.getElem?_eq_getElem hj1) (List.getElem?_eq_getElem hj2) r1 r2
theorem lX (I : Inv X pins σ H s) : ∀ (n : Nat) (A : Around) (x y : V) (v u : Value), A.units + n < cLine -> Alk H n x y -> RelV x v -> RelV y u -> SeqAt.EqAt A s v u true
  | 0, _, _, _, _, _, _, h, _, _ => h.elim
  | n + 1, A, x, y, v, u, hu, h, rx, ry => by
    rcases h with ⟨rfl, hp⟩ | ⟨a, b, xs, ys, rfl, rfl, hab, hl, hz, hall⟩
    . rcases hp with hp | ⟨a, rfl⟩
      . have := eqAt_V (A := A) (s := s) rx ry hp hp
        rwa [eqV_self hp] at this
      . cases rx
        cases ry
        exact SeqAt.EqAt.same _
    . cases rx
      cases ry
      by_cases eab : a = b
      . subst eab
        exact SeqAt.EqAt.same _
      refine SeqAt.EqAt.of_refs eab ?_
      have hu1 : A.in1.units + n < cLine := by
        have : A.in1.units = A.units + 1 := rfl
        omega
      rcases hab with ⟨h1, h2⟩ | ⟨h1, h2⟩
      . obtain ⟨us, ru, pu⟩ := vJ I h1
        obtain ⟨ws, rw', pw⟩ := vJ I h2
        have l1 := ru.length
        have l2 := rw'.length
        have := SeqAt.RcAt.tuples (e := fun _ => true) pu pw (by omega) (jJ (R := fun _ _ _ => True) ru rw' fun i x y u w e1 e2 r1 r2 => lX I n A.in1 x y u w hu1 (hall i x y e1 e2) r1 r2)
        rwa [show ((List.range (min us.toArray.size ws.toArray.size)).all (fun _ => true) && us.toArray.size == ws.toArray.size) = true from by
          rw [pZ (fun _ _ => rfl), Bool.true_and]
          simp only [List.size_toArray, beq_iff_eq]
          omega] at this
      . obtain ⟨us, ru, pu⟩ := wJ I h1
        obtain ⟨ws, rw', pw⟩ := wJ I h2
        have l1 := ru.length
        have l2 := rw'.length
        have := SeqAt.RcAt.lists (e := fun _ => true) pu pw (by simp only [List.size_toArray]; omega) (by omega) (jJ (R := fun _ _ _ => True) ru rw' fun i x y u w e1 e2 r1 r2 => lX I n A.in1 x y u w hu1 (hall i x y e1 e2) r1 r2)
        rwa [show (List.range us.toArray.size).all (fun _ => true) = true from pZ (fun _ _ => rfl)] at this
end
section
variable {X : Cx}
theorem op_neA (hu : X.A.units + 64 < cLine) : OpR X (compareOp .NotEq) (fun x y H Q => ∃ (n : Nat) (a b : Addr), n <= 50 /\ x = .ref a /\ y = .ref b /\ ((∃ zs, H a = some (.tup zs)) \/ ∃ zs, H a = some (.lst zs)) /\ Alk H n x y /\ Q (.bl false) H) := by
  intro pins s σ H x y v u Q I rx ry h
  obtain ⟨n, a, b, hn, rfl, rfl, hk, al, q⟩ := h
  cases rx
  cases ry
  cases n with
  | zero => exact al.elim
  | succ n =>
    have hu1 : X.A.in1.units + n < cLine := by
      have : X.A.in1.units = X.A.units + 1 := rfl
      omega
    rcases al with ⟨h1, hp⟩ | ⟨a', b', xs, ys, e1, e2, hab, hl, hz, hall⟩
    . cases h1
      rcases hk with ⟨zs, hz⟩ | ⟨zs, hz⟩
      . obtain ⟨us, ru, pu⟩ := vJ I hz
        refine SeqAt.RcNeAt.tuples (e := fun _ => true) pu pu (by omega) (fun j h1 h2 => SeqAt.EqAt.same _) _ _ _ _ ?_
        rw [show ((List.range (min us.toArray.size us.toArray.size)).all (fun _ => true) && us.toArray.size == us.toArray.size) = true from by
          rw [pZ (fun _ _ => rfl), Bool.true_and]
          exact beq_self_eq_true _]
        exact ⟨.bl false, H, I, rfl, q⟩
      . obtain ⟨us, ru, pu⟩ := wJ I hz
        refine SeqAt.RcNeAt.lists (e := fun _ => true) pu pu rfl (by omega) (fun j h1 h2 => SeqAt.EqAt.same _) _ _ _ _ ?_
        rw [show (List.range us.toArray.size).all (fun _ => true) = true from pZ (fun _ _ => rfl)]
        exact ⟨.bl false, H, I, rfl, q⟩
    cases e1
    cases e2
    rcases hab with ⟨h1, h2⟩ | ⟨h1, h2⟩
    . obtain ⟨us, ru, pu⟩ := vJ I h1
      obtain ⟨ws, rw', pw⟩ := vJ I h2
      have l1 := ru.length
      have l2 := rw'.length
      refine SeqAt.RcNeAt.tuples (e := fun _ => true) pu pw (by omega) (jJ (R := fun _ _ _ => True) ru rw' fun i x y u w e1 e2 r1 r2 => lX I n X.A.in1 x y u w hu1 (hall i x y e1 e2) r1 r2) _ _ _ _ ?_
      rw [show ((List.range (min us.toArray.size ws.toArray.size)).all (fun _ => true) && us.toArray.size == ws.toArray.size) = true from by
          rw [pZ (fun _ _ => rfl), Bool.true_and]
          simp only [List.size_toArray, beq_iff_eq]
          omega]
      exact ⟨.bl false, H, I, rfl, q⟩
    . obtain ⟨us, ru, pu⟩ := wJ I h1
      obtain ⟨ws, rw', pw⟩ := wJ I h2
      have l1 := ru.length
      have l2 := rw'.length
      refine SeqAt.RcNeAt.lists (e := fun _ => true) pu pw (by simp only [List.size_toArray]; omega) (by omega) (jJ (R := fun _ _ _ => True) ru rw' fun i x y u w e1 e2 r1 r2 => lX I n X.A.in1 x y u w hu1 (hall i x y e1 e2) r1 r2) _ _ _ _ ?_
      rw [show (List.range us.toArray.size).all (fun _ => true) = true from pZ (fun _ _ => rfl)]
      exact ⟨.bl false, H, I, rfl, q⟩
end
end L2
namespace L2
open PySem PySem.Spec PyProof.Rows
variable {X : Cx}
theorem op_eqA (hu : X.A.units + 64 < cLine) : OpR X (compareOp .Eq) (fun x y H Q => ∃ (n : Nat) (a b : Addr), n <= 50 /\ x = .ref a /\ y = .ref b /\ ((∃ zs, H a = some (.tup zs)) \/ ∃ zs, H a = some (.lst zs)) /\ Alk H n x y /\ Q (.bl true) H) := by
  intro pins s σ H x y v u Q I rx ry h
  obtain ⟨n, a, b, hn, rfl, rfl, hk, al, q⟩ := h
  cases rx
  cases ry
  cases n with
  | zero => exact al.elim
  | succ n =>
    have hu1 : X.A.in1.units + n < cLine := by
      have : X.A.in1.units = X.A.units + 1 := rfl
      omega
    rcases al with ⟨h1, hp⟩ | ⟨a', b', xs, ys, e1, e2, hab, hl, hz, hall⟩
    . cases h1
      rcases hk with ⟨zs, hz⟩ | ⟨zs, hz⟩
      . obtain ⟨us, ru, pu⟩ := vJ I hz
        refine SeqAt.RcAt.tuples (e := fun _ => true) pu pu (by omega) (fun j h1 h2 => SeqAt.EqAt.same _) _ _ _ _ ?_
        rw [show ((List.range (min us.toArray.size us.toArray.size)).all (fun _ => true) && us.toArray.size == us.toArray.size) = true from by
          rw [pZ (fun _ _ => rfl), Bool.true_and]
          exact beq_self_eq_true _]
        exact ⟨.bl true, H, I, rfl, q⟩
      . obtain ⟨us, ru, pu⟩ := wJ I hz
        refine SeqAt.RcAt.lists (e := fun _ => true) pu pu rfl (by omega) (fun j h1 h2 => SeqAt.EqAt.same _) _ _ _ _ ?_
        rw [show (List.range us.toArray.size).all (fun _ => true) = true from pZ (fun _ _ => rfl)]
        exact ⟨.bl true, H, I, rfl, q⟩
    cases e1
    cases e2
    rcases hab with ⟨h1, h2⟩ | ⟨h1, h2⟩
    . obtain ⟨us, ru, pu⟩ := vJ I h1
      obtain ⟨ws, rw', pw⟩ := vJ I h2
      have l1 := ru.length
      have l2 := rw'.length
      refine SeqAt.RcAt.tuples (e := fun _ => true) pu pw (by omega) (jJ (R := fun _ _ _ => True) ru rw' fun i x y u w e1 e2 r1 r2 => lX I n X.A.in1 x y u w hu1 (hall i x y e1 e2) r1 r2) _ _ _ _ ?_
      rw [show ((List.range (min us.toArray.size ws.toArray.size)).all (fun _ => true) && us.toArray.size == ws.toArray.size) = true from by
          rw [pZ (fun _ _ => rfl), Bool.true_and]
          simp only [List.size_toArray, beq_iff_eq]
          omega]
      exact ⟨.bl true, H, I, rfl, q⟩
    . obtain ⟨us, ru, pu⟩ := wJ I h1
      obtain ⟨ws, rw', pw⟩ := wJ I h2
      have l1 := ru.length
      have l2 := rw'.length
      refine SeqAt.RcAt.lists (e := fun _ => true) pu pw (by simp only [List.size_toArray]; omega) (by omega) (jJ (R := fun _ _ _ => True) ru rw' fun i x y u w e1 e2 r1 r2 => lX I n X.A.in1 x y u w hu1 (hall i x y e1 e2) r1 r2) _ _ _ _ ?_
      rw [show (List.range us.toArray.size).all (fun _ => true) = true from pZ (fun _ _ => rfl)]
      exact ⟨.bl true, H, I, rfl, q⟩
end L2
namespace L2
open PySem PySem.Spec PyProof.Rows
def Ish (z : Str) : It := ⟨fun i _ => i < z.cps.size, fun i H x H' => H' = H /\ ∃ c, z.cps[i]? = some c /\ x = .str ⟨#[c]⟩, fun i _ => z.cps.size <= i⟩
theorem aU {P : Program} {w : World} {K : PySem.W.Frag} {tg : Expr} (it : Addr) (ty : String) (z : Str) (t : Tok) (hty : ty = "str_ascii_iterator" \/ ty = "str_iterator") : Turn P w K tg (Ish z) [it] it (fun i h => h.IsStrIter it ty z t i) where
  mem := by simp
  obj := fun i h st b hb => by
    have e : b = it := by simpa using hb
    subst e
    obtain ⟨o, e, c, d⟩ := st
    exact ⟨o, e, fun v z => by rw [d] at z; cases z⟩
  keep := fun i h h' st k => by
    obtain ⟨o, ho, r⟩ := st
    exact ⟨o, k it (by simp) o ho, r⟩
  item := by
    intro X hP hw hK hc i pins s σ H E I hf st hg
    subst hP hw hK
    obtain ⟨f0, f1, f2, f3, f4, f5⟩ := hf it (by simp)
    have W : Walks X.prog X.w X.A it [it] [it] z.cps.size (SignAt z) (fun i h => h.IsStrIter it ty z t i) := by
      rcases hty with rfl | rfl
      . exact Walks.strAscii (I.ok.hd hc) it z t
      . exact Walks.strWide (I.ok.hd hc) it z t
    refine W.item i s _ _ hg st fun v h' tk hv st' kk => ?_
    obtain ⟨c, u, hc', rfl⟩ := hv
    have I1 : Inv X pins σ H { s with heap := h', toks := tk } := I.turned (fun b o hb e => kk b o (by simpa using hb) e) f0 f1 f3 f4 f5
    obtain ⟨o, e, c1, d1⟩ := id st'
    exact ⟨_, rfl, nO (s := { s with heap := h', toks := tk }) e c1 d1 (by rcases hty with rfl | rfl <;> decide) ⟨.str ⟨#[c]⟩, H, I1, ⟨u, rfl⟩, ⟨rfl, c, hc', rfl⟩, st', fun b hb => (hf b hb).1⟩⟩
  done := by
    intro X hP hw hK hc i pins s σ H E I hf st hg
    subst hP hw hK
    obtain ⟨f0, f1, f2, f3, f4, f5⟩ := hf it (by simp)
    have hn : z.cps[i]? = none := by
      have h : z.cps.size <= i := hg
      simp [h]
    rcases hty with rfl | rfl
    . exact wpAny_pyNext_ascii_end (I.ok.hd hc) st hn fun h' eb => ⟨rfl, I.turned (t' := s.toks) (fun b o hb e => eb b o hb e) f0 f1 f3 f4 f5⟩
    . exact wpAny_pyNext_wide_end (I.ok.hd hc) st hn fun h' eb => ⟨rfl, I.turned (t' := s.toks) (fun b o hb e => eb b o hb e) f0 f1 f3 f4 f5⟩
  self := fun _ _ _ _ _ st h => by
    rcases hty with rfl | rfl
    . exact wpAny_pyIter_striter_ascii st h
    . exact wpAny_pyIter_striter_wide st h
def iStr (tl : TE) : TI := fun σ H R => tl σ H fun x H1 => ∃ z, x = .str z /\ R (Ish z) H1
theorem pi_str {X : Cx} {tg l : Expr} {tl : TE} (hl : PE X l tl) : PI X tg l (iStr tl) := by
  intro pins s σ H R I h
  refine thn (hl pins s σ H _ I h) fun v s1 hh => ?_
  obtain ⟨x, H1, I1, r1, z, e, q⟩ := hh
  subst e
  obtain ⟨t, rfl⟩ := r1
  have fp : ∀ b ∈ [s1.heap.objs.size], FpOk X pins H1 b := fun b hb => by
    have e : b = s1.heap.objs.size := by simpa using hb
    subst e
    exact I1.fpOk (Nat.le_refl _) (I1.hok.fresh (Nat.le_refl _))
  cases ha : z.cps.all (· < 128)
  . exact wpAny_pyIter_wide ha ⟨s1.heap.objs.size, [s1.heap.objs.size], _, _, H1, rfl, I1.kept (t' := s1.toks) fun b o e => Heap.get?_push_of_some _ e, aU _ "str_iterator" z t (.inr rfl), ⟨_, Heap.get?_push_size _ rfl, rfl, rfl⟩, fp, q⟩
  . exact wpAny_pyIter_ascii ha ⟨s1.heap.objs.size, [s1.heap.objs.size], _, _, H1, rfl, I1.kept (t' := s1.toks) fun b o e => Heap.get?_push_of_some _ e, aU _ "str_ascii_iterator" z t (.inl rfl), ⟨_, Heap.get?_push_size _ rfl, rfl, rfl⟩, fp, q⟩
theorem lc_str {g : TG} {tt : TT} {te : TE} {Q : VK} {σ0 : St} {H0 : Hp} {D : Addr} {z : Str} (Pv : Nat -> List V -> St -> Hp -> Prop) (h0 : Pv 0 [] σ0 H0)
    (hs : ∀ i c ys σ H, z.cps[i]? = some c -> Pv i ys σ H -> g (.str ⟨#[c]⟩) σ H fun σ3 H3 => tt σ3 H3 fun b H4 => if b = true then te σ3 H4 fun y H5 => H5 D = some (.lst ys) /\ ys.length < sizeLine /\ Pv (i + 1) (ys ++ [y]) σ3 (upd H5 D (.lst (ys ++ [y]))) else Pv (i + 1) ys σ3 H4)
    (hd : ∀ ys σ H, Pv z.cps.size ys σ H -> Q (.ref D) H) :
    LcW (Ish z) D g tt te Q σ0 H0 := by
  refine ⟨fun i m ys σ H => m = z.cps.size - i /\ i <= z.cps.size /\ Pv i ys σ H, ⟨z.cps.size, by simp, Nat.zero_le _, h0⟩, ?_⟩
  rintro i m ys σ H ⟨rfl, hi, p⟩
  by_cases hlt : i < z.cps.size
  . refine .inr ⟨hlt, fun ys' σ' H' => Pv (i + 1) ys' σ' H', fun ys' σ' H' p' => ⟨z.cps.size - (i + 1), by omega, rfl, hlt, p'⟩, fun x H' y => ?_⟩
    obtain ⟨e, c, y, y2⟩ := y
    subst e y2
    exact hs i c ys σ _ y p
  . have e : i = z.cps.size := by omega
    subst e
    exact .inl ⟨Nat.le_refl _, hd ys σ H p⟩
theorem xO {X : Cx} : MtR X "str.join" (fun x vs H Q => ∃ (z : Str) (p : Addr) (ys : List Str), x = .str z /\ vs = [.ref p] /\ SqL X.K H p (ys.map V.str) /\ (ys.map (·.length)).sum + ys.length * z.length <= 16777216 /\ Q (.str (Txt.join z ys)) H) := by
  intro pins s σ H x vs v us Q I rx rv h
  obtain ⟨z, p, ys, rfl, rfl, hS, hz, q⟩ := h
  obtain ⟨t, rfl⟩ := rx
  obtain ⟨u, rfl, ru⟩ := rv.one
  cases ru
  obtain ⟨its, r, pl, hl⟩ := I.list hS
  exact join_list pl.isList (yU r) hz fun t' k => ⟨.str _, H, I.tok k, ⟨t', rfl⟩, q⟩
def GD (w : World) (K : PySem.W.Frag) (mg : Str -> Option Value) (x : Str) (kvs : List (Str × Value)) : Prop :=
  ∃ (a : Addr) (es : Array DictEntry) (ep : Nat), mg x = some (.ref a) /\ K.lookup a = some ⟨.type "dict", none, .dict es ep, #[]⟩ /\ (kvs.map (·.1)).Nodup /\
    Paired (fun (e : DictEntry) (kv : Str × Value) => ∃ t, e = ⟨hashStr w kv.1, .str kv.1 t, kv.2⟩) es.toList kvs
theorem vV {P : Program} {w : World} : ∀ {es : List DictEntry} {kvs : List (Str × Value)}, Paired (fun (e : DictEntry) (kv : Str × Value) => ∃ t, e = ⟨hashStr w kv.1, .str kv.1 t, kv.2⟩) es kvs ->
    Pairs (mixKind P w) es (kvs.map fun kv => ((Sum.inr kv.1 : Key), kv.2)) /\ ∀ e ∈ es, ∃ k, (mixKind P w).is k e.key = true /\ e.hash = (mixKind P w).hash k
  | _, _, .nil => ⟨.nil, fun e he => nomatch he⟩
  | _, _, .cons h r => by
    obtain ⟨t, rfl⟩ := h
    obtain ⟨r1, r2⟩ := vV r
    refine ⟨.cons (rJ P w _ t) rfl r1, fun e he => ?_⟩
    rcases List.mem_cons.mp he with rfl | he
    . exact ⟨.inr _, rJ P w _ t, rfl⟩
    . exact r2 e he
theorem wV : ∀ {kvs : List (Str × Value)}, (kvs.map (·.1)).Nodup -> ((kvs.map fun kv => ((Sum.inr kv.1 : Key), kv.2)).map (·.1)).Nodup
  | [], _ => .nil
  | p :: r, h => by
    rw [List.map_cons] at h
    obtain ⟨h1, h2⟩ := List.nodup_cons.mp h
    rw [List.map_cons, List.map_cons]
    refine List.nodup_cons.mpr ⟨fun z => h1 ?_, wV h2⟩
    rw [List.map_map] at z
    obtain ⟨q, hq, e⟩ := List.mem_map.mp z
    have e' : q.1 = p.1 := Sum.inr.inj e
    rw [<- e']
    exact List.mem_map_of_mem hq
theorem gd_at {k : Str} {v : Value} : ∀ {kvs : List (Str × Value)}, kvs.lookup k = some v -> valueAt (kvs.map fun kv => ((Sum.inr kv.1 : Key), kv.2)) (Sum.inr k) = some v
  | [], h => nomatch h
  | p :: r, h => by
    unfold valueAt
    rw [List.map_cons, List.find?_cons]
    rw [List.lookup_cons] at h
    by_cases e : k = p.1
    . subst e
      rw [beq_self_eq_true] at h
      cases h
      simp
    . have e1 : (k == p.1) = false := by simpa using e
      rw [e1] at h
      have e2 : ¬ (Sum.inr p.1 : Key) = Sum.inr k := fun z => e (Sum.inr.inj z).symm
      simp only [e2, decide_false]
      exact gd_at h
def tGGet (kvs : List (Str × Value)) (ty : TE) : TE := fun σ H Q => ty σ H fun y H1 => ∃ k v u, y = .str k /\ kvs.lookup k = some v /\ RelV u v /\ Q u H1
theorem pe_gget {X : Cx} {g : Str} {i : Expr} {pn pos : Pos} {ty : TE} {kvs : List (Str × Value)} (hg : Gl X g) (hd : GD X.w X.K X.mg g kvs) (hi : PE X i ty) (hs : NoSl i) (hdb : (g == ("__debug__" : Str)) = false := by decide) : PE X (.Subscript (.Name g pn) i pos) (tGGet kvs ty) := by
  intro pins s σ H Q I h
  obtain ⟨a, es, ep, hm, hk, hn, hp⟩ := hd
  refine sO PySem.F.slot_dict_getitem.lookup hs (thn (tX (v := .ref a) hg hm rfl hdb pins s σ H (fun v H' => v = V.ref a /\ H' = H) I ⟨rfl, rfl⟩) fun u s1 hh => ?_)
  obtain ⟨x, H1, I1, rx, e, eH⟩ := hh
  subst e eH
  cases rx
  refine thn (hi pins s1 σ _ _ I1 h) fun iv s2 hh => ?_
  obtain ⟨y, H2, I2, ry, k, v, u, ey, hl, ru, q⟩ := hh
  subst ey
  obtain ⟨pr, ks⟩ := vV (P := X.prog) hp
  have dd : s2.heap.DictOf (mixKind X.prog X.w) a (kvs.map fun kv => ((Sum.inr kv.1 : Key), kv.2)) := ⟨_, es, ep, I2.kIn a _ hk, ⟨rfl, rfl, rfl⟩, rfl, fun e he => ks e (by simpa using he), pr, wV hn⟩
  exact ⟨dd.typeIs, wpAny_getItem_of (kV_is (k := Sum.inr k) ry) dd.mapOf (gd_at hl) ⟨u, H2, I2.tok _, ru, q⟩⟩
def GDT (w : World) (K : PySem.W.Frag) (mg : Str -> Option Value) (x : Str) (rows : List (Str × List Str)) : Prop :=
  ∃ kvs, GD w K mg x kvs /\ ∀ k ws, rows.lookup k = some ws -> ∃ a, kvs.lookup k = some (.ref a) /\ ∀ H : Hp, SqT K H a (ws.map V.str)
theorem bU {K : PySem.W.Frag} {k : Str} {ws : List Str} : ∀ {kvs : List (Str × Value)} {rows : List (Str × List Str)}, Paired (fun (kv : Str × Value) (row : Str × List Str) => kv.1 = row.1 /\ ∃ a, kv.2 = .ref a /\ ∀ H : Hp, SqT K H a (row.2.map V.str)) kvs rows ->
    rows.lookup k = some ws -> ∃ a, kvs.lookup k = some (.ref a) /\ ∀ H : Hp, SqT K H a (ws.map V.str)
  | _, _, .nil, h => nomatch h
  | (x, v) :: _, (y, us) :: _, .cons h r, hl => by
    obtain ⟨e, a, e2, hq⟩ := h
    dsimp only at e e2 hq
    subst e e2
    rw [List.lookup_cons] at hl ⊢
    cases hx : k == x with
    | true =>
      rw [hx] at hl
      dsimp only at hl ⊢
      cases hl
      exact ⟨a, rfl, hq⟩
    | false =>
      rw [hx] at hl
      exact bU r hl
theorem gdt_of {w : World} {K : PySem.W.Frag} {mg : Str -> Option Value} {x : Str} {kvs : List (Str × Value)} {rows : List (Str × List Str)} (hg : GD w K mg x kvs)
    (hp : Paired (fun (kv : Str × Value) (row : Str × List Str) => kv.1 = row.1 /\ ∃ a, kv.2 = .ref a /\ ∀ H : Hp, SqT K H a (row.2.map V.str)) kvs rows) : GDT w K mg x rows := ⟨kvs, hg, fun _ _ h => bU hp h⟩
def tGGetT (K : PySem.W.Frag) (rows : List (Str × List Str)) (ty : TE) : TE := fun σ H Q => ty σ H fun y H1 => ∃ k ws, y = .str k /\ rows.lookup k = some ws /\ ∀ a, (∀ H : Hp, SqT K H a (ws.map V.str)) -> Q (.ref a) H1
theorem pe_ggetT {X : Cx} {g : Str} {i : Expr} {pn pos : Pos} {ty : TE} {rows : List (Str × List Str)} (hg : Gl X g) (hd : GDT X.w X.K X.mg g rows) (hi : PE X i ty) (hs : NoSl i) (hdb : (g == ("__debug__" : Str)) = false := by decide) : PE X (.Subscript (.Name g pn) i pos) (tGGetT X.K rows ty) := by
  intro pins s σ H Q I h
  obtain ⟨kvs, ⟨a, es, ep, hm, hk, hn, hp⟩, hlk⟩ := hd
  refine sO PySem.F.slot_dict_getitem.lookup hs (thn (tX (v := .ref a) hg hm rfl hdb pins s σ H (fun v H' => v = V.ref a /\ H' = H) I ⟨rfl, rfl⟩) fun u s1 hh => ?_)
  obtain ⟨x, H1, I1, rx, e, eH⟩ := hh
  subst e eH
  cases rx
  refine thn (hi pins s1 σ _ _ I1 h) fun iv s2 hh => ?_
  obtain ⟨y, H2, I2, ry, k, ws, ey, hl, q⟩ := hh
  subst ey
  obtain ⟨b, hb, hS⟩ := hlk k ws hl
  obtain ⟨pr, ks⟩ := vV (P := X.prog) hp
  have dd : s2.heap.DictOf (mixKind X.prog X.w) a (kvs.map fun kv => ((Sum.inr kv.1 : Key), kv.2)) := ⟨_, es, ep, I2.kIn a _ hk, ⟨rfl, rfl, rfl⟩, rfl, fun e he => ks e (by simpa using he), pr, wV hn⟩
  exact ⟨dd.typeIs, wpAny_getItem_of (kV_is (k := Sum.inr k) ry) dd.mapOf (gd_at hb) ⟨.ref b, H2, I2.tok _, rfl, q b hS⟩⟩
end L2
namespace L2
open PySem PySem.Spec PyProof.Rows
structure Lies (P : Program) (w : World) (outer : List Env) (H : Hp) (s : Shared) (B : Heap) (H' : Hp) (s' : Shared) : Prop where
  os : s'.os = s.os
  bare : AllBare s'.gens
  keep : ∀ b o, s.heap.get? b = some o -> H b = none -> b ∉ frs outer -> B.get? b = some o
  slot : ∀ b o, s.heap.get? b = some o -> H b = none -> b ∈ frs outer -> ∃ sl, s'.heap.get? b = some { o with slots := sl }
  free : ∀ b o, s.heap.get? b = some o -> H b = none -> H' b = none
  there : ∀ b o, s.heap.get? b = some o -> b ∉ frs outer -> ∃ o', B.get? b = some o'
  tups : ∀ b xs, H b = some (.tup xs) -> H' b = some (.tup xs)
  frzs : ∀ b o u, H b = some (.frz o u) -> H' b = some (.frz o u)
  tbls : ∀ b ps, H b = some (.tbl ps) -> ∃ more, H' b = some (.tbl (ps ++ more))
  hok : HOk P w H' B
def CXR (P : Program) (w : World) : CXT := fun outer H s E e s' =>
  ∃ (ea : Addr) (cls a0 : Value) (B : Heap) (H' : Hp), e = .ref ea /\ Heap.FlyingW B outer ea cls a0 s'.heap /\ Lies P w outer H s B H' s' /\ E cls none H'
theorem hV {h B : Heap} {l : List Env} (f : h.FunFrames B l) {b : Addr} (hb : b ∈ frs l) : B.get? b = none /\ ∃ o, h.get? b = some o /\ ∀ vs, o.data ≠ .fields vs := f.mem hb
theorem Lies.un {P : Program} {w : World} {outer : List Env} {H H' : Hp} {s s' : Shared} {B : Heap} (L : Lies P w outer H s B H' s') (st : B.StaysIn s'.heap) (fr : s'.heap.FunFrames B outer) : Un (frs outer) [] H H' s.heap s'.heap where
  keep := fun b o e n hb _ => st b o (L.keep b o e n hb)
  slot := fun b o e n hb _ => L.slot b o e n hb
  free := fun b o e n _ => L.free b o e n
  there := fun b o e _ => by
    by_cases hb : b ∈ frs outer
    . obtain ⟨_, o', h, _⟩ := hV fr hb
      exact ⟨o', h⟩
    . obtain ⟨o', h⟩ := L.there b o e hb
      exact ⟨o', st b o' h⟩
  tups := L.tups
  frzs := L.frzs
  tbls := L.tbls
theorem Lies.on {P : Program} {w : World} {outer : List Env} {H H' : Hp} {s s' : Shared} {B h' : Heap} (L : Lies P w outer H s B H' s') (fr : s'.heap.FunFrames B outer) (us : s'.heap.UpToSlots h') : Lies P w outer H s B H' { s' with heap := h' } :=
  ⟨L.os, L.bare, L.keep, fun b o e n hb => by
    obtain ⟨sl, h1⟩ := L.slot b o e n hb
    obtain ⟨_, o', h2, nf⟩ := hV fr hb
    rw [h1] at h2
    cases h2
    obtain ⟨sl', h3⟩ := us b _ h1 nf
    exact ⟨sl', h3⟩, L.free, L.there, L.tups, L.frzs, L.tbls, L.hok⟩
section
variable {P : Program} {w : World} {K : PySem.W.Frag} {mg : Str -> Option Value} {base : Heap} {N : List Str} {qual : Str} {scope : Scope} {f : Addr} {cd : Value} {A : Around} {outer : List Env} {s : Shared} {H : Hp} {E : XK}
theorem lies_out {X : Cx} {pins : List (Addr × Obj)} {σ : St} {H1 H' : Hp} {s1 s' : Shared} {B : Heap} (I : Inv X pins σ H1 s1) (hx : X.ex = []) (hs : X.stack = X.env :: X.outer) (hf : X.env.frame = some X.env.locals) (L : Lies X.prog X.w X.stack H1 s1 B H' s') :
    Lies X.prog X.w X.outer X.H₀ X.s₀ B H' s' := by
  have nx : ∀ b : Addr, b ∉ X.ex := fun b z => by rw [hx] at z; exact absurd z (by simp)
  have fe : frs X.stack = X.env.locals :: frs X.outer := by
    rw [hs]
    unfold frs
    rw [List.filterMap_cons, hf]
  have nl : ∀ b o, X.s₀.heap.get? b = some o -> b ≠ X.env.locals := fun b o e => Nat.ne_of_lt (Nat.lt_of_lt_of_le (Heap.lt_size e) I.ok.above)
  have nst : ∀ b o, X.s₀.heap.get? b = some o -> b ∉ frs X.outer -> b ∉ frs X.stack := fun b o e hb z => by
    rw [fe] at z
    rcases List.mem_cons.mp z with z | z
    . exact nl b o e z
    . exact hb z
  refine ⟨L.os.trans I.os, L.bare, fun b o e n hb => ?_, fun b o e n hb => ?_, fun b o e n => ?_, fun b o e hb => ?_, fun b xs e => L.tups b xs (I.base.tups b xs e), fun b o u e => L.frzs b o u (I.base.frzs b o u e), fun b ps e => ?_, L.hok⟩
  . exact L.keep b o (I.base.keep b o e n hb (nx b)) (I.base.free b o e n (nx b)) (nst b o e hb)
  . obtain ⟨sl, h1⟩ := I.base.slot b o e n hb (nx b)
    obtain ⟨sl', h2⟩ := L.slot b _ h1 (I.base.free b o e n (nx b)) (by rw [fe]; exact List.mem_cons_of_mem _ hb)
    exact ⟨sl', h2⟩
  . obtain ⟨o', h1⟩ := I.base.there b o e (nx b)
    exact L.free b o' h1 (I.base.free b o e n (nx b))
  . obtain ⟨o', h1⟩ := I.base.there b o e (nx b)
    exact L.there b o' h1 (nst b o e hb)
  . obtain ⟨m1, e1⟩ := I.base.tbls b ps e
    obtain ⟨m2, e2⟩ := L.tbls b _ e1
    exact ⟨m1 ++ m2, by rw [e2, Array.append_assoc]⟩
end
structure Exc (K : PySem.W.Frag) (mg : Str -> Option Value) (x : Str) (C : Addr) (bmB : List Value) (newId : String) : Prop where
  bound : mg x = some (.ref C)
  inn : PySem.W.excIn K C bmB newId = true
theorem Exc.obj {K : PySem.W.Frag} {mg : Str -> Option Value} {x : Str} {C : Addr} {bmB : List Value} {newId : String} (e : Exc K mg x C bmB newId) {h : Heap} (X : K.In h) :
    ∃ bm N nm q bs hdct sn sub ab col dd k0 k1 k2 k3 k5 mN, h.get? C = some (excClassObj nm q C N bs bm hdct sn sub ab col dd k0 k1 k2 k3 k5 newId) /\ h.Ns N mN /\ mN "__init__" = none /\ OwnTail h bmB bm := by
  have q := e.inn
  unfold PySem.W.excIn at q
  split at q
  case h_2 => cases q
  case h_1 dd cd sl ho =>
  split at q
  case h_2 => cases q
  case h_1 C' bm k0 k1 k2 k3 n k5 hm hs =>
  rw [Bool.and_eq_true, Bool.and_eq_true, Bool.and_eq_true, Bool.and_eq_true, Bool.and_eq_true] at q
  obtain ⟨⟨⟨⟨⟨q1, q2⟩, q3⟩, q4⟩, q5⟩, q6⟩ := q
  have q1 := beq_iff_eq.mp q1
  have q2 := beq_iff_eq.mp q2
  have q3 : cd.hasDel = false := by cases z : cd.hasDel with | false => rfl | true => rw [z] at q3; cases q3
  have q6 := beq_iff_eq.mp q6
  subst q1 q2
  obtain ⟨nm, bs, mro, ns, qn, hd, sn, sub, ab, col, del⟩ := cd
  cases q3
  cases hm
  have hsl : sl = #[k0, k1, k2, k3, some (.builtin n), k5] := Array.toList_inj.mp hs
  rw [hsl] at ho
  exact ⟨bm, ns, nm, qn, bs, hd, sn, sub, ab, col, dd, k0, k1, k2, k3, k5, _, X _ _ ho, .of_isNs (PySem.W.isNs_of_in X q5), PySem.W.nsMap_none_of_in X q5 q6, PySem.W.tail_of_in X q4⟩
def Raiser (X : Cx) (E : XK) : Prop := ∀ (pins : List (Addr × Obj)) (σ : St) (H : Hp) (s : Shared) (h2 : Heap) (e C : Addr) (vs : List Value), Inv X pins σ H s -> Heap.MadeExcOf s.heap h2 e (.ref C) vs -> E (.ref C) none H -> X.xe (.ref e) { s with heap := h2 }
def tRaise (C : Addr) (E : XK) (t : TA) : TS := fun _ σ H => t σ H fun vs H1 => vs.length <= sizeLine /\ E (.ref C) none H1
theorem ps_raise {X : Cx} {E : XK} {x : Str} {C : Addr} {bmB : List Value} {B newId initId : String} {np cpos pos : Pos} {e : Expr} {es : List Expr} {t : TA} (hE : Raiser X E) (hc : X.calm = true) (hg : Gl X x) (O : Exc X.K X.mg x C bmB newId) (FB : ExcBaseFacts B newId initId bmB)
    (ha : PA X (e :: es) t) (he : starEach (e :: es) X.env = (false, eval e X.env) :: starEach es X.env := by rfl) (hplain : (backTo cpos (starEach es X.env)).any (·.1) = false := by rfl) (hd : (x == ("__debug__" : Str)) = false := by decide) :
    PS X (.Raise (some (.Call (.Name x np) (e :: es) [] cpos)) none pos) (tRaise C E t) := by
  intro pins s σ H D I h
  obtain ⟨tl, N, nm, q, bs, hdct, sn, sub, ab, col, dd, k0, k1, k2, k3, k5, mN, hC, hN, hni, T⟩ := O.obj I.mod.kin
  refine wpAny_Raise_call_subT (C := C) (nm := nm) (q := q) (N := N) (bs := bs) (bm := tl) (hdct := hdct) (sn := sn) (sub := sub) (ab := ab) (col := col) (dd := dd) (k0 := k0) (k1 := k1) (k2 := k2) (k3 := k3) (k5 := k5)
    FB (mN := mN) (T.hasType FB.hasBase) (I.ok.hd hc) (by rw [he]; show (false || (backTo cpos (starEach es X.env)).any (·.1)) = false; rw [hplain]; rfl) hni (bW I hg O.bound ⟨rfl, ?_⟩ hd)
  have ha' := ha cpos pins s σ H _ I h
  rw [he] at ha' ⊢
  exact Calls.evalArgs_plain (wpAny_mono ha' (fun us s2 ⟨vs, H1, I1, r1, q0, q1⟩ => ⟨rfl, (by rw [<- r1.length]; exact q0), I1.bk _ _ hC, hN.keeps I1.bk, T.keeps I1.bk, fun h' e2 hm => hE pins σ H1 s2 h' e2 C us I1 hm q1⟩) fun _ _ y => y)
section
variable {P : Program} {w : World} {K : PySem.W.Frag} {mg : Str -> Option Value} {base : Heap} {N : List Str} {qual : Str} {scope : Scope} {f : Addr} {cd : Value} {A : Around} {outer : List Env} {s : Shared} {H : Hp} {E : XK}
theorem raiser_on : Raiser (cxOf (CXR P w) P w K mg base N qual scope f cd A outer s H E) E := by
  intro pins σ H1 s1 h2 e C vs I hx q
  have st : (PySem.W.hideAll s1.heap (frs (envOfC qual scope s.heap.objs.size f cd :: outer))).StaysIn s1.heap := fun b o q => PySem.W.of_hideAll _ q
  have hl : s1.heap.FunFrames (PySem.W.hideAll s1.heap (frs (envOfC qual scope s.heap.objs.size f cd :: outer))) (envOfC qual scope s.heap.objs.size f cd :: outer) :=
    PySem.W.funFrames_hide I.stack (fun env he a ha => List.mem_filterMap.mpr ⟨env, he, ha⟩)
  refine wpAny_leaves_madeW I.ok.frames rfl st hl hx fun h' t fl tup tn us => ⟨e, .ref C, .ref t, _, H1, rfl, fl, ?_, q⟩
  refine lies_out (X := cxOf (CXR P w) P w K mg base N qual scope f cd A outer s H E) I rfl rfl rfl ⟨rfl, I.bare, fun b o e n hb => PySem.W.hideAll_get _ e hb, fun b o e n hb => ?_, fun b o e n => n, fun b o e hb => ⟨o, PySem.W.hideAll_get _ e hb⟩, fun _ _ e => e, fun _ _ _ e => e, fun b ps e => ⟨#[], by rw [e]; simp⟩, fun a o e => ?_⟩
  . obtain ⟨_, o', h1, nf⟩ := hV I.stack hb
    rw [e] at h1
    cases h1
    exact us b o (hx.keeps b o e) nf
  . refine (I.hok a o e).stay (fun b u hb q => PySem.W.hideAll_get _ q fun z => ?_) (fun _ q => q) fun _ _ q => q
    have hn := I.stkFree b z
    rcases hb with rfl | hb
    . rw [e] at hn; cases hn
    . rw [hb] at hn; cases hn
end
def CalR (P : Program) (w : World) (K : PySem.W.Frag) (mg : Str -> Option Value) (base : Heap) (k : Nat) (x : Str) (ps : List Str) (sp : Sp) : Prop :=
  ∃ (f : Addr) (fd : FuncData), FnOk P w K mg base (CXR P w) k f fd ps sp /\ Binds K fd ps [] /\ PySem.W.keepIn K (.ref f) = true /\ mg x = some (.ref f)
theorem Has.calR {P : Program} {w : World} {K : PySem.W.Frag} {mg : Str -> Option Value} {base : Heap} {x : Str} {st : Stmt} {N ps : List Str} {k : Nat} {sp : Sp} (h : Has K mg x st ps) (S : FnScope N ps (defScope st)) (len : ∀ vs H Q E, sp vs H Q E -> vs.length = ps.length)
    (hbody : ∀ (f : Addr) (cdv : Value) (A : Around) (outer : List Env) (s : Shared) (H : Hp) (vs : List V) (Q : VK) (E : XK), Room k (A.deeper (envOfC x (defScope st) s.heap.objs.size f cdv)) -> sp vs H Q E ->
      ∃ t, PSs (cxOf (CXR P w) P w K mg base N x (defScope st) f cdv A outer s H E) (defBody st) t /\ t { nx := fun _ H' => Q .non H', rt := Q } (start N vs) H) : CalR P w K mg base (k + 1) x ps sp := by
  obtain ⟨f, fd, F, b, m⟩ := h
  refine ⟨f, fd, ?_, b, F.kp, m⟩
  obtain ⟨oc, od, kV, doc, pm, an, cdv, ct, osl, rfl, lk, hcd⟩ := F.ex
  exact fn_of lk hcd S len fun A outer s H vs Q E hr hsp => hbody f cdv A outer s H vs Q E hr hsp
theorem PS.nox {X : Cx} {st : Stmt} {t : TS} (h : PS X.nox st t) : PS X st t := fun pins s σ H D I hw =>
  wpAny_mono (h pins s σ H D (I.wish _) hw) (fun _ _ q => q.unwish) fun _ _ z => False.elim z
abbrev Cx.mark (X : Cx) (v : Value) (E : Value -> Shared -> Prop) : Cx := { X with A := X.A.mark (some v), calm := false, xe := E }
theorem Inv.mark {X : Cx} {pins : List (Addr × Obj)} {σ : St} {H : Hp} {s : Shared} (I : Inv X pins σ H s) (v : Value) (E : Value -> Shared -> Prop) : Inv (X.mark v E) pins σ H s :=
  ⟨⟨I.ok.mod, I.ok.kind, I.ok.glob, I.ok.blt, I.ok.above, I.ok.inj, I.ok.has, I.ok.cab, (fun z => by cases z), I.ok.frames, I.ok.stk, I.ok.exf, I.ok.bs, I.ok.bsz, I.ok.noex, I.ok.exfs, I.ok.funs, I.ok.frf⟩, I.os, I.bare, I.base, I.loc, I.cell, I.free, I.freeC, I.pin, I.hok, I.len⟩
theorem Inv.unmark {X : Cx} {pins : List (Addr × Obj)} {σ : St} {H : Hp} {s : Shared} {v : Value} {E : Value -> Shared -> Prop} (I : Inv (X.mark v E) pins σ H s) (ok : X.Ok) : Inv X pins σ H s :=
  ⟨ok, I.os, I.bare, I.base, I.loc, I.cell, I.free, I.freeC, I.pin, I.hok, I.len⟩
theorem SP.unmark {X : Cx} {pins : List (Addr × Obj)} {v : Value} {E : Value -> Shared -> Prop} {D : Ends} {f : Flow} {s' : Shared} (h : SP (X.mark v E) pins D f s') (ok : X.Ok) : SP X pins D f s' := by
  cases f with
  | next => obtain ⟨σ', H', I, q⟩ := h; exact ⟨σ', H', I.unmark ok, q⟩
  | brk => obtain ⟨σ', H', I, q⟩ := h; exact ⟨σ', H', I.unmark ok, q⟩
  | cont => obtain ⟨σ', H', I, q⟩ := h; exact ⟨σ', H', I.unmark ok, q⟩
  | ret u => obtain ⟨v, σ', H', I, r, q⟩ := h; exact ⟨v, σ', H', I.unmark ok, r, q⟩
theorem Lies.inv {X : Cx} {pins : List (Addr × Obj)} {σ : St} {H1 H' : Hp} {s1 s' : Shared} {B h' : Heap} (I : Inv X pins σ H1 s1) (L : Lies X.prog X.w X.stack H1 s1 B H' s') (fr : s'.heap.FunFrames B X.stack) (us : s'.heap.UpToSlots h') (st : B.StaysIn h') (fr' : h'.FunFrames B X.stack) :
    Inv X pins σ H' { s' with heap := h' } := by
  have L' := L.on fr us
  exact I.call' (s' := { s' with heap := h' }) L'.os (L'.un st fr') (L'.hok.kept st) L'.bare fun b z => absurd z (by simp)
theorem taken {X : Cx} {pins : List (Addr × Obj)} {σ : St} {H1 H' : Hp} {s1 s' : Shared} {B : Heap} {D : Ends} {th : TS} {ea C : Addr} {a0 : Value} {x : Str} {bmB : List Value} {newId : String} {np hp : Pos} {b₀ : Stmt} {suite : List Stmt} {rest : List ExceptHandler}
    (I : Inv X pins σ H1 s1) (hs : X.stack = X.env :: X.outer) (hf : X.env.frame = some X.env.locals) (fl : Heap.FlyingW B X.stack ea (.ref C) a0 s'.heap) (L : Lies X.prog X.w X.stack H1 s1 B H' s')
    (hgx : Gl X x) (O : Exc X.K X.mg x C bmB newId) (hbase : bmB.contains (.type "BaseException") = true) (hth : PSs (X.mark (.ref ea) fun _ _ => False) (b₀ :: suite) th) (h : th D σ H') (hd : (x == ("__debug__" : Str)) = false) :
    wpAny (model X.prog X.w) X.A (noteFrame (.ref ea) X.env) (fun _ s₂ => wpAny (model X.prog X.w) X.A (setFlight (.ref ea) none) (fun _ s₃ => wpAny (model X.prog X.w) X.A (handleBy (.ref ea) X.env (.ExceptHandler (some (.Name x np)) none (b₀ :: suite) hp :: rest)) (SP X pins D) X.xe s₃) X.xe s₂) X.xe s' := by
  have fr := fl.2.2.1
  have fl0 : Heap.FlyingW B (X.env :: X.outer) ea (.ref C) a0 s'.heap := by rw [<- hs]; exact fl
  refine wpAny_looks_onW (by rw [<- hs]; exact I.ok.frames) hf fl0 fun h₄ held us4 => ?_
  refine wpAny_landsW held fun h₅ fl5 us5 => ?_
  have I5 : Inv X pins σ H' { s' with heap := h₅ } := L.inv I fr (us4.trans us5) fl5.1 (by rw [hs]; exact fl5.2.2.1)
  refine wpAny_handleBy_cons (codeAny_handlers_test (bW (I5.mark (.ref ea) fun _ _ => False) hgx O.bound ?_ hd)) (by intro q; cases q)
  obtain ⟨bm, N, nm, qn, bs, hdct, sn, sub, ab, col, dd, k0, k1, k2, k3, k5, mN, hC, hN, hni, TL⟩ := O.obj I5.kIn
  obtain ⟨ob, hob, hobc⟩ := fl5.there
  refine wpAny_excMatches_sub_self hC hob hobc (TL.hasType hbase) (codeAny_handlers_suite ?_)
  refine lands_againW fl5 fun h₆ fl6 us6 => ?_
  have I6 : Inv X pins σ H' { s' with heap := h₆ } := L.inv I fr ((us4.trans us5).trans us6) fl6.1 (by rw [hs]; exact fl6.2.2.1)
  exact wpAny_mono (hth pins _ σ H' D (I6.mark (.ref ea) fun _ _ => False) h) (fun f s'' q => q.unmark I6.ok) fun _ _ z => False.elim z
end L2
namespace L2
open PySem
theorem dU (a : Array Nat) : ∀ (k : Nat) (acc : Array Nat), (List.foldl (fun x1 x2 => x1 ++ x2) acc (List.replicate k a)).toList = acc.toList ++ (List.replicate k a.toList).flatten
  | 0, acc => by simp
  | k + 1, acc => by
    rw [List.replicate_succ, List.foldl_cons, dU a k (acc ++ a), Array.toList_append, List.replicate_succ, List.flatten_cons, List.append_assoc]
theorem op_mulS {X : Cx} : OpR X (binaryOp .Mult) (fun x y H Q => ∃ (z : Str) (n : Int), x = .str z /\ y = .int n /\ 0 <= n /\ n <= 16777216 /\ z.length * n.toNat <= sizeLine /\ ∀ z' : Str, z'.cps.toList = (List.replicate n.toNat z.cps.toList).flatten -> Q (.str z') H) := by
  intro pins s σ H x y v u Q I rx ry h
  obtain ⟨z, n, rfl, rfl, h0, h1, hz, q⟩ := h
  obtain ⟨t, rfl⟩ := rx
  obtain ⟨t', rfl⟩ := ry
  refine PySem.P.mul_str ?_ (fun hn _ => ?_) (fun _ _ => ?_) ?_
  . rw [decide_eq_false (by omega), decide_eq_false (by omega)]
    rfl
  . have h2 : (z.length : Int) * n <= 16777216 := by
      have e : (n.toNat : Int) = n := by omega
      have h3 : ((z.length * n.toNat : Nat) : Int) <= ((sizeLine : Nat) : Int) := Int.ofNat_le.mpr hz
      rw [Int.natCast_mul, e] at h3
      have h4 : ((sizeLine : Nat) : Int) = 16777216 := by decide
      omega
    have h5 : (z.length : Int) <= (2 ^ 63 - 1) / n := by
      rw [Int.le_ediv_iff_mul_le (by omega)]
      omega
    omega
  . unfold Builtin.Str.tooLong
    exact decide_eq_false (by omega)
  . split
    . rename_i hn
      have e : n.toNat = 0 := by omega
      refine ⟨by decide, ⟨.str _, H, I.tok _, ⟨_, rfl⟩, q _ ?_⟩⟩
      rw [e]
      rfl
    . split
      . rename_i hn hd
        refine ⟨.str z, H, I, ⟨_, rfl⟩, q _ ?_⟩
        rw [Bool.or_eq_true] at hd
        rcases hd with hd | hd
        . have e : n = 1 := eq_of_beq hd
          subst e
          show _ = [z.cps.toList].flatten
          simp
        . have e : z.length = 0 := eq_of_beq hd
          have e2 : z.cps.toList = [] := List.eq_nil_of_length_eq_zero (by rw [Array.length_toList]; exact e)
          rw [e2]
          exact (List.flatten_replicate_nil).symm
      . have e : (Str.mk ((List.replicate n.toNat z.cps).foldl (· ++ ·) #[])).cps.toList = (List.replicate n.toNat z.cps.toList).flatten := by
          show (List.foldl (fun x1 x2 => x1 ++ x2) #[] (List.replicate n.toNat z.cps)).toList = _
          rw [dU]
          rfl
        refine ⟨?_, ⟨.str _, H, I.tok _, ⟨_, rfl⟩, q _ e⟩⟩
        have hl := congrArg List.length e
        rw [len_rep, Array.length_toList, Array.length_toList] at hl
        show (Str.mk ((List.replicate n.toNat z.cps).foldl (· ++ ·) #[])).cps.size <= sizeLine
        rw [hl, Nat.mul_comm]
        exact hz
end L2
namespace L2
open PySem PySem.W PySem.Spec PySem.Calls PyProof.Rows PySem.Builtin PySem.Builtin.ObjectAttr PySem.Builtin.Getset_descriptor
section
variable {prog : Program} {w : World} {A : Around} {E : Value -> Shared -> Prop} {s : Shared} {K : Frag} {x D : Addr}
theorem xf_find {M : Model} {h : Heap} {a g : Value} {n : Str} (X : K.In h) (ha : findIn K (.ref D) n = some (some a)) (hg : specialIn K a "__get__" = some (some g)) (ht : takesIn K a = some true) : Looks M h (find (.ref x) (.ref D) n) (.bind g a) :=
  (looks_findIn (M := M) X ha).andThen ((show Looks M h (getOf (some a)) (some g) from looks_specialIn X hg).andThen ((show Looks M h (dataDescriptor? (some a) (some g)) (some (g, a)) from (looks_takesIn (M := M) X ht).andThen .now).andThen (Looks.tag .now)))
structure XCls (K : Frag) (D : Addr) : Prop where
  ga : findIn K (.ref D) "__getattribute__" = some (some (.builtin "BaseException.__getattribute__"))
  gh : findIn K (.ref D) "__getattr__" = some none
  at_ : findIn K (.ref D) "__class__" = some (some (.builtin "object.__class__"))
  get : specialIn K (.builtin "object.__class__") "__get__" = some (some (.builtin "getset_descriptor.__get__"))
  tk : takesIn K (.builtin "object.__class__") = some true
  mro : mroIn K D (.type "object") = some true
  mb : mroIn K D (.type "BaseException") = some true
  cl : (clsIn K D).isSome = true
theorem xf_get {tp : Value} {R : Result -> Shared -> Prop} (X : K.In s.heap) (T : Looks (model prog w) s.heap (typeOf (.ref x)) (.ref D)) (hm : mroIn K D (.type "object") = some true) (h : R (.ok (.ret (.ref D))) s) :
    codeAny (model prog w) A (.call (.builtin "getset_descriptor.__get__") ⟨[.builtin "object.__class__", .ref x, tp], []⟩) R s := by
  obtain ⟨hp, gs, dr, tk, os⟩ := s
  have M1 := looks_mroIn (M := model prog w) X hm
  have three := KF.args_gs (.builtin "object.__class__") (.ref x) tp
  refine codeAny_call_builtin KF.slot_gs.plain KF.entry_gs (KF.slot_gs.check _ _ _ _ _ _ _ _ KF.type_class three ?_)
  unfold Builtin.«getset_descriptor.__get__»
  unfold descrGet
  rw [dga_obj]
  refine wpAny_bind (wpAny_pure ?_)
  unfold descrGetter descrCheckInstance
  unfold descrNameAndClass isInstance
  simp only [KF.owner_class]
  repeat lk
  have quiet := Code.quiet_builtin (id := "object.__class__") ⟨[.ref x], []⟩ (by decide +kernel)
  refine ⟨quiet, ?_⟩
  refine codeAny_builtin KF.entry_class ?_
  unfold Builtin.«object.__class__»
  unfold shownTypeOf
  repeat lk
  exact h
theorem xf_entry {tk : Tok} {Q : Fin -> Shared -> Prop} (X : K.In s.heap) (T : Looks (model prog w) s.heap (typeOf (.ref x)) (.ref D)) (C : XCls K D) (h : Q (.done (.ret (.ref D))) s) : wpAny (model prog w) A (Builtin.«object.__getattribute__» ⟨[.ref x, .str "__class__" tk], []⟩) Q E s := by
  have F1 := xf_find (M := model prog w) (x := x) X C.at_ C.get C.tk
  unfold Builtin.«object.__getattribute__»
  refine wpAny_bind (wpAny_pure (wpAny_bind (wpAny_pure (wpAny_bind (T.at (wpAny_bind (F1.at ?_)))))))
  unfold bindTo
  refine wpAny_bind (wpAny_holding (wpAny_call (xf_get (s := s) X T C.mro ?_)))
  exact wpAny_pure h
theorem xf_check {v : Value} {Q : Unit -> Shared -> Prop} (X : K.In s.heap) (T : Looks (model prog w) s.heap (typeOf (.ref x)) (.ref D)) (C : XCls K D) (h : Q () s) : wpAny (model prog w) A (checkBuiltinCall "BaseException.__getattribute__" ⟨[.ref x, v], []⟩) Q E s := by
  have M1 := looks_mroIn (M := model prog w) X C.mb
  have k1 : builtinKind "BaseException.__getattribute__" = some .slot := by decide +kernel
  have k2 : splitId "BaseException.__getattribute__" = some ("BaseException", "__getattribute__") := by decide +kernel
  simp only [checkBuiltinCall, k1, k2]
  unfold isInstance
  repeat lk
  exact h
theorem xf_attr {Q : Option Value -> Shared -> Prop} (X : K.In s.heap) (T : Looks (model prog w) s.heap (typeOf (.ref x)) (.ref D)) (C : XCls K D) (h : Q (some (.ref D)) { s with toks := s.toks + 1 }) : wpAny (model prog w) A (getAttr? (.ref x) "__class__") Q E s := by
  obtain ⟨hp, gs, dr, tk, os⟩ := s
  have G1 := looks_findIn (M := model prog w) X C.ga
  have G2 := looks_findIn (M := model prog w) X C.gh
  unfold getAttr?
  unfold getAttrBy? getAttrBy
  refine wpAny_bind (wpAny_mkText (wpAny_bind (wpAny_attempt (wpAny_holding (wpAny_bind (T.at (wpAny_bind (G1.at ?_))))))))
  show wpAny (model prog w) A (getAttrByItsOwn (.ref x) _ (.ref D) (.builtin "BaseException.__getattribute__") _ _) _ _ _
  unfold getAttrByItsOwn
  refine wpAny_bind (G2.at (wpAny_bind (wpAny_attempt (wpAny_holding ?_))))
  show wpAny (model prog w) _ (boundAndCalled _ _ _) _ _ _
  unfold boundAndCalled
  rw [F.excAttr_ValueError.ga.bind]
  refine wpAny_bind (wpAny_pure (wpAny_call ?_))
  refine codeAny_call_builtin F.excAttr_ValueError.ga.plain F.entry_bexc_ga (xf_check (s := ⟨hp, gs, dr, tk + 1, os⟩) X T C (xf_entry (s := ⟨hp, gs, dr, tk + 1, os⟩) X T C ?_))
  exact wpAny_pure (wpAny_pure h)
def excObj (a C : Addr) : Heap -> Prop := fun h => ∃ o, h.get? a = some o /\ o.cls = .ref C
theorem excObj.type {M : Model} {h : Heap} {a C : Addr} (e : excObj a C h) : Looks M h (typeOf (.ref a)) (.ref C) := by
  obtain ⟨o, e, c⟩ := e
  exact c ▸ (Looks.ld e).andThen .now
theorem kitx_exc (C : XCls K D) : KitX K (.ref x) (.ref D) (excObj x D) where
  ty := fun _ _ _ e => e.type
  it := fun _ _ X _ => by
    obtain ⟨cd, hc⟩ := Option.isSome_iff_exists.mp C.cl
    unfold clsIn at hc
    split at hc
    . rename_i ho
      intro A' Q' E' s' k q
      unfold isType
      unfold loadHead
      exact wpAny_bind (wpAny_loadPart (k _ _ (X _ _ ho)) (wpAny_pure q))
    . cases hc
  ne := fun hp b dd its n sl X hb => by
    obtain ⟨cd, hc⟩ := Option.isSome_iff_exists.mp C.cl
    by_cases e : D = b
    case neg => exact beq_false_of_ne fun q => e (Value.ref.inj q)
    subst e
    exfalso
    unfold clsIn at hc
    split at hc
    . rename_i ho
      cases (X _ _ ho).symm.trans hb
    . cases hc
  ca := fun X e k => xf_attr X e.type C k
end
def XO (a C : Addr) : HO := .ext (excObj a C)
theorem xo_ok {P : Program} {w : World} {H : Hp} {h : Heap} {a C : Addr} (e : excObj a C h) : ObjOk P w H h a (XO a C) := by
  obtain ⟨o, e1, e2⟩ := e
  exact ⟨⟨o, e1, e2⟩, ⟨o, e1⟩, fun h1 h2 ⟨o, q1, q2⟩ k => ⟨o, k o q1, q2⟩⟩
theorem xJ {X : Cx} (KK : Frag) (hK : X.K = KK := by rfl) : CallR X (.builtin "isinstance") (fun xs H Q => ∃ (a C : Addr) (y : V) (c : Value) (b : Bool), xs = [.ref a, y] /\ H a = some (XO a C) /\ XCls KK C /\ RelV y c /\ (∀ u, RelV y u -> u = c) /\ kitOne KK (.ref C) c = some b /\ Q (.bl b) H) := by
  subst hK
  intro pins s σ H xs us Q I r h
  obtain ⟨a, C, y, c, b, rfl, ha, xc, rc, uq, hk, q⟩ := h
  obtain ⟨u, v, rfl, ru, rv⟩ := Vals.two r
  cases ru
  cases uq v rv
  obtain ⟨p, _⟩ := (show ObjOk X.prog X.w H s.heap a (.ext (excObj a C)) from I.hok a _ ha)
  exact kia_one (kitx_exc xc) I.kIn p hk (fun z => nomatch z) fun tk => ⟨.bl b, H, I.tok _, rfl, q⟩
theorem Inv.track {X : Cx} {pins : List (Addr × Obj)} {σ : St} {H : Hp} {s : Shared} {a : Addr} {o : HO} (I : Inv X pins σ H s) (hn : H a = none) (h0 : X.s₀.heap.get? a = none) (hl : X.env.locals ≠ a) (hc : ∀ x c, X.env.cells.lookup x = some c -> c ≠ a)
    (hp : ∀ p ∈ X.pn ++ pins, p.1 ≠ a) (ok : ObjOk X.prog X.w (upd H a o) s.heap a o) : Inv X pins σ (upd H a o) s := by
  have keep : ∀ b u, H b = some u -> upd H a o b = some u := fun b u e => by rw [sQ (qQ e hn)]; exact e
  refine ⟨I.ok, I.os, I.bare, ⟨I.base.keep, I.base.slot, fun b ob e n hx => ?_, I.base.there, fun b xs e => keep _ _ (I.base.tups b xs e), fun b ob u e => keep _ _ (I.base.frzs b ob u e), fun b ps e => ?_⟩, I.loc, I.cell, ?_, fun y c e => ?_, fun p q => ?_, fun b u e => ?_, I.len⟩
  . rw [sQ (fun z => by rw [z, h0] at e; cases e)]
    exact I.base.free b ob e n hx
  . obtain ⟨m, e1⟩ := I.base.tbls b ps e
    exact ⟨m, keep _ _ e1⟩
  . rw [sQ hl]
    exact I.free
  . rw [sQ (hc y c e)]
    exact I.freeC y c e
  . obtain ⟨e, n, r⟩ := I.pin p q
    exact ⟨e, by rw [sQ (hp p q)]; exact n, r⟩
  . by_cases hb : b = a
    . subst hb
      rw [jQ] at e
      cases e
      exact ok
    . rw [sQ hb] at e
      exact (I.hok b u e).stay (fun c v _ q => q) (fun c q => keep _ _ q) fun c xs q => keep _ _ q
theorem Inv.unset {X : Cx} {pins : List (Addr × Obj)} {σ : St} {H : Hp} {s : Shared} {i : Nat} {n : Str} {v : Option Value} {m : Str -> Option Value} {h' : Heap} {t' : Nat} (I : Inv X pins σ H s) (hN : X.N.Nodup) (hi : X.N[i]? = some n)
    (hl : ∀ (j : Nat) (y : Str) (u : V), X.N[j]? = some y -> σ[j]? = some (some u) -> Vis X.env.scope y -> ∃ z, RelV u z /\ Look X.env s.heap m y z) (hn' : h'.Ns X.env.locals (fun y => if y = n then v else m y)) (hs : Heap.SameBut X.env.locals s.heap h') :
    Inv X pins (σ.set i none) H { s with heap := h', toks := t' } := by
  have ne0 : ∀ b o, X.s₀.heap.get? b = some o -> b ≠ X.env.locals := fun b o e => Nat.ne_of_lt (Nat.lt_of_lt_of_le (Heap.lt_size e) I.ok.above)
  have cne := I.cne
  refine ⟨I.ok, I.os, I.bare, ⟨fun b o e n hb hx => (hs.2 b (ne0 b o e)).trans (I.base.keep b o e n hb hx), fun b o e n hb hx => ?_, I.base.free, fun b o e hx => ?_, I.base.tups, I.base.frzs, I.base.tbls⟩, ⟨_, hn', fun j y u e1 e2 e3 => ?_⟩, fun y c e => ?_, I.free, I.freeC, fun p hp => ?_, fun b ob e => ?_, by simpa using I.len⟩
  . obtain ⟨sl, e1⟩ := I.base.slot b o e n hb hx
    exact ⟨sl, (hs.2 b (ne0 b o e)).trans e1⟩
  . obtain ⟨o', e1⟩ := I.base.there b o e hx
    exact ⟨o', (hs.2 b (ne0 b o e)).trans e1⟩
  . have hj : j ≠ i := fun z => by
      subst z
      rw [List.getElem?_set_self (by rw [I.len]; exact (List.getElem?_eq_some_iff.mp e1).1)] at e2
      cases e2
    rw [List.getElem?_set_ne (Ne.symm hj)] at e2
    obtain ⟨z, r, q⟩ := hl j y u e1 e2 e3
    refine ⟨z, r, ?_⟩
    rcases q with ⟨k, e⟩ | ⟨k, c, e, w'⟩
    . refine .inl ⟨k, ?_⟩
      have hy : y ≠ n := fun w => hj (oV hN e1 (w ▸ hi))
      show (if y = n then v else m y) = some z
      rw [if_neg hy]
      exact e
    . exact .inr ⟨k, c, e, w'.sameBut hs (cne y c e)⟩
  . obtain ⟨w', z⟩ := I.cell y c e
    exact ⟨w', z.sameBut hs (cne y c e)⟩
  . obtain ⟨e, n, ne, nf, d⟩ := I.pin p hp
    exact ⟨(hs.2 p.1 ne).trans e, n, ne, nf, d⟩
  . refine (I.hok b ob e).stay (fun c w' hc q => (hs.2 c fun z => ?_).trans q) (fun _ q => q) fun _ _ q => q
    have hf := I.free
    rw [<- z] at hf
    rcases hc with rfl | hc
    . rw [e] at hf; cases hf
    . rw [hc] at hf; cases hf
theorem dW {X : Cx} {M : Model} {A : Around} {E : Value -> Shared -> Prop} {pins : List (Addr × Obj)} {σ : St} {H : Hp} {s : Shared} {i : Nat} {n : Str} {pos : Pos} {Q : Unit -> Shared -> Prop} (I : Inv X pins σ H s) (hN : X.N.Nodup) (hi : X.N[i]? = some n) (hk : X.env.scope.names.lookup n = some .local)
    (h : ∀ s', Inv X pins (σ.set i none) H s' -> Q () s') : wpAny M A (do bindName X.env n .none; unbindBehindTheSuite X.env n pos) Q E s := by
  obtain ⟨m, hn, hl⟩ := id I.loc
  exact wpAny_nameGoes_keeps hk hn (by rw [I.ok.kind]; rfl) fun h' v hn' hs => h _ (I.unset hN hi hl hn' hs)
abbrev XEnd := Value -> St -> Hp -> Prop
def Thrown (X : Cx) (pins : List (Addr × Obj)) (Ex : XEnd) (e : Value) (s' : Shared) : Prop :=
  ∃ (σr : St) (Hr : Hp) (sr : Shared) (ea : Addr) (cls a0 : Value) (B : Heap) (H' : Hp), e = .ref ea /\ Inv X pins σr Hr sr /\ Heap.FlyingW B X.stack ea cls a0 s'.heap /\ Lies X.prog X.w X.stack Hr sr B H' s' /\ Ex cls σr H'
abbrev TB := Ends -> XEnd -> St -> Hp -> Prop
def PB (X : Cx) (st : Stmt) (t : TB) : Prop := ∀ (pins : List (Addr × Obj)) (s : Shared) (σ : St) (H : Hp) (D : Ends) (Ex : XEnd), Inv X pins σ H s -> t D Ex σ H -> wpAny (model X.prog X.w) X.A (exec st X.env) (SP X pins D) (Thrown X pins Ex) s
def PBs (X : Cx) (sts : List Stmt) (t : TB) : Prop := ∀ (pins : List (Addr × Obj)) (s : Shared) (σ : St) (H : Hp) (D : Ends) (Ex : XEnd), Inv X pins σ H s -> t D Ex σ H -> wpAny (model X.prog X.w) X.A (execs sts X.env) (SP X pins D) (Thrown X pins Ex) s
section
variable {X : Cx} {pos : Pos}
theorem pbs_one {st : Stmt} {t : TB} (h1 : PB X st t) : PBs X [st] t := fun pins s σ H D Ex I h =>
  wpAny_execs_cons (wpAny_mono (h1 pins s σ H D Ex I h) (fun f s1 q => by
    cases f with
    | next => exact wpAny_execs_nil q
    | brk => exact q
    | cont => exact q
    | ret v => exact q) fun _ _ z => z)
def bDrop (sp : Sp) (ta : TA) : TB := fun D Ex σ H => ta σ H fun vs H1 => sp vs H1 (fun _ H2 => D.nx σ H2) (fun cls _ H2 => Ex cls σ H2)
theorem pb_expr {k : Nat} {f : Str} {ps : List Str} {sp : Sp} {ta : TA} {pf cp : Pos} {e : Expr} {es : List Expr} (c : CalR X.prog X.w X.K X.mg X.base k f ps sp) (hr : Room k X.A) (hgf : Gl X f) (ha : PA X.nox (e :: es) ta)
    (hw : swapsWith (.Call (.Name f pf) (e :: es) [] cp) none pos.line X.env = pure false := by rfl)
    (hdb : (f == ("__debug__" : Str)) = false := by decide) (he : starEach (e :: es) X.env = (false, eval e X.env) :: starEach es X.env := by rfl) (hpl : (backTo cp (starEach es X.env)).any (·.1) = false := by rfl) :
    PB X (.Expr (.Call (.Name f pf) (e :: es) [] cp) pos) (bDrop sp ta) := by
  intro pins s σ H D Ex I h
  obtain ⟨fa, fd, F, hb, kp, hm⟩ := c
  refine wpAny_Expr_any (wpAny_Call_Name_kw (bW I hgf hm ?_ hdb)) I.quiet hw
  have ha' := ha cp pins s σ H _ (I.wish _) h
  refine PySem.W.callWith_K (h₀ := X.base) I.ok.mod.kin kp (wpAny_mono ha' (fun us s1 hh => ?_) fun _ _ z => False.elim z) he hpl
  obtain ⟨vs, H1, I1', r, q⟩ := hh
  have I1 := I1'.unwish
  have hl : (us ++ []).length = ps.length := by rw [List.append_nil, <- r.length]; exact F.len _ _ _ _ q
  have hb' := hb s1 us I1.kIn hl
  rw [List.append_nil] at hb'
  refine ⟨I1.kIn, wpAny_call (codeAny_mono (F.run X.A X.stack s1 H1 ⟨us, []⟩ us vs _ _ hr I1.env0 hb' r q) fun r s' hq => ?_)⟩
  cases r with
  | error e2 =>
    obtain ⟨ea, cls, a0, B, H', e3, fl, L, q2⟩ := hq
    exact ⟨σ, H1, s1, ea, cls, a0, B, H', e3, I1, fl, L, q2⟩
  | ok fl =>
    cases fl with
    | ret u =>
      obtain ⟨v, H2, I2, rv, q2⟩ := I1.after hq
      exact ⟨σ, H2, I2, q2⟩
    | next => exact False.elim hq
    | brk => exact False.elim hq
    | cont => exact False.elim hq
def sTryN (K : Frag) (Dc : Addr) (i : Nat) (tb : TB) (th : TS) : TS := fun D σ H => tb D (fun cls σr H' => ∃ C, cls = .ref C /\ exmOne K (.ref C) (.ref Dc) = some true /\
  ∀ ea, H' ea = none -> th { nx := fun σ' H2 => D.nx (σ'.set i none) H2, rt := D.rt, bk := fun σ' H2 => D.bk (σ'.set i none) H2, ct := fun σ' H2 => D.ct (σ'.set i none) H2 } (σr.set i (some (.ref ea))) (upd H' ea (XO ea C))) σ H
theorem ps_tryN {body : List Stmt} {i : Nat} {x n : Str} {Dc : Addr} {tb : TB} {th : TS} {np hp : Pos} {b₀ : Stmt} {suite : List Stmt} (hN : X.N.Nodup) (hi : X.N[i]? = some n) (hk : X.env.scope.names.lookup n = some .local) (hb : PBs X body tb) (hgx : Gl X x) (bound : X.mg x = some (.ref Dc))
    (hth : ∀ ea, PSs (X.mark (.ref ea) fun _ _ => False) (b₀ :: suite) th) (hex : X.ex = [] := by rfl)
    (hs : X.stack = X.env :: X.outer := by rfl) (hf : X.env.frame = some X.env.locals := by rfl) (hdx : (x == ("__debug__" : Str)) = false := by decide) :
    PS X (.Try body [.ExceptHandler (some (.Name x np)) (some n) (b₀ :: suite) hp] [] [] pos) (sTryN X.K Dc i tb th) := by
  intro pins s σ H D I h
  refine wpAny_Try_except (wpAny_mono (hb pins s σ H D _ I h) (fun f s1 q => ?_) fun e s' th0 => ?_)
  . cases f with
    | next => exact wpAny_execs_nil q
    | brk => exact q
    | cont => exact q
    | ret v => exact q
  obtain ⟨σr, Hr, sr, ea, cls, a0, B, H', rfl, I1, fl, L, C, rfl, hm, q⟩ := th0
  have fr := fl.2.2.1
  have fl0 : Heap.FlyingW B (X.env :: X.outer) ea (.ref C) a0 s'.heap := by rw [<- hs]; exact fl
  refine wpAny_looks_onW (by rw [<- hs]; exact I1.ok.frames) hf fl0 fun h₄ held us4 => ?_
  refine wpAny_landsW held fun h₅ fl5 us5 => ?_
  have I5 : Inv X pins σr H' { s' with heap := h₅ } := L.inv I1 fr (us4.trans us5) fl5.1 (by rw [hs]; exact fl5.2.2.1)
  refine wpAny_handleBy_cons (codeAny_handlers_test (bW (I5.mark (.ref ea) fun _ _ => False) hgx bound ?_ hdx)) (by intro q; cases q)
  have T5 : Looks (model X.prog X.w) h₅ (typeOf (.ref ea)) (.ref C) := excObj.type fl5.there
  refine (exm_one I5.kIn T5 hm).here (codeAny_handlers_suite_as ?_)
  refine lands_againW fl5 fun h₆ fl6 us6 => ?_
  have I6 : Inv X pins σr H' { s' with heap := h₆ } := L.inv I1 fr ((us4.trans us5).trans us6) fl6.1 (by rw [hs]; exact fl6.2.2.1)
  have hB : B.get? ea = none := fl.2.1
  have nfr : ea ∉ frs X.stack := fun z => by
    obtain ⟨_, o, ho, nf⟩ := hV (by rw [hs]; exact fl6.2.2.1 : h₆.FunFrames B X.stack) z
    obtain ⟨oe, vs, he, _, hd, _⟩ := fl6.first
    rw [he] at ho
    cases ho
    exact nf vs hd
  have old : ∀ b o, sr.heap.get? b = some o -> b ≠ ea := fun b o e z => by
    subst z
    obtain ⟨o', e2⟩ := L.there b o e nfr
    rw [hB] at e2
    cases e2
  have hn : H' ea = none := by
    cases hx : H' ea with
    | none => rfl
    | some o =>
      obtain ⟨ob, e2⟩ := (L.hok ea o hx).there
      rw [hB] at e2
      cases e2
  have I7 : Inv X pins σr (upd H' ea (XO ea C)) { s' with heap := h₆ } := by
    refine I6.track hn ?_ ?_ (fun y c e z => ?_) (fun p hp z => ?_) (xo_ok fl6.there)
    . cases hx : X.s₀.heap.get? ea with
      | none => rfl
      | some o =>
        obtain ⟨o', e2⟩ := I1.base.there ea o hx (by rw [hex]; exact List.not_mem_nil)
        exact absurd rfl (old ea o' e2)
    . obtain ⟨m, ⟨o, _, _, ho, _⟩, _⟩ := I1.loc
      exact old _ o ho
    . obtain ⟨v, o, ho, _⟩ := I1.cell y c e
      exact old c o ho z
    . exact old p.1 p.2 (I1.pin p hp).1 z
  have hfn : X.fn n = true \/ X.env.scope.names.lookup n = some .local := .inr hk
  refine jW (X := X.mark (.ref ea) fun _ _ => False) (I7.mark (.ref ea) fun _ _ => False) hN hi (.inl hk) (v := .ref ea) rfl (fun s8 I8 => ?_) hfn
  refine wpAny_mono (hth ea pins _ _ _ _ I8 (q ea hn)) (fun f s9 q9 => ?_) fun _ _ z => False.elim z
  cases f with
  | next => obtain ⟨σ', H9, I9, q9⟩ := q9; exact dW (I9.unmark I6.ok) hN hi hk fun s10 I10 => ⟨_, _, I10, q9⟩
  | brk => obtain ⟨σ', H9, I9, q9⟩ := q9; exact dW (I9.unmark I6.ok) hN hi hk fun s10 I10 => ⟨_, _, I10, q9⟩
  | cont => obtain ⟨σ', H9, I9, q9⟩ := q9; exact dW (I9.unmark I6.ok) hN hi hk fun s10 I10 => ⟨_, _, I10, q9⟩
  | ret v => obtain ⟨u, σ', H9, I9, r9, q9⟩ := q9; exact dW (I9.unmark I6.ok) hN hi hk fun s10 I10 => ⟨u, _, _, I10, r9, q9⟩
end
end L2
namespace L2
open PySem PySem.W PySem.Spec PySem.Calls PyProof.Rows
theorem eW {K : Frag} {C D : Addr} {b : Bool} (ht : typeIn K (.ref D) = some (.type "type")) (hc : isClsIn K D = true) (hs : subIn K (.ref C) (.ref D) = some b) (hn : (Value.ref C == Value.ref D) = false) : kitOne K (.ref C) (.ref D) = some b := by
  unfold kitOne
  rw [if_neg (by rw [hn]; decide)]
  unfold kitCls
  dsimp only
  have h1 : (clsIn K D).isSome = true := hc
  rw [if_pos (by rw [h1, ht]; decide)]
  exact hs
theorem kit_ve {K : Frag} {C : Addr} {b : Bool} (hs : subIn K (.ref C) (.type "ValueError") = some b) : kitOne K (.ref C) (.type "ValueError") = some b := by
  unfold kitOne
  rw [if_neg (show ¬ ((Value.ref C == Value.type "ValueError") = true) from fun h => by cases (beq_iff_eq.mp h))]
  unfold kitCls
  dsimp only
  rw [if_pos (by decide +kernel)]
  exact hs
theorem exm_own {K : Frag} {C D : Addr} {b : Bool} (hB : subIn K (.ref D) (.type "BaseException") = some true) (ht : typeIn K (.ref D) = some (.type "type")) (hc : isClsIn K D = true) (hs : subIn K (.ref C) (.ref D) = some b) : exmOne K (.ref C) (.ref D) = some b := by
  unfold exmOne
  rw [if_pos (by rw [hB]; decide)]
  unfold kitCls
  dsimp only
  have h1 : (clsIn K D).isSome = true := hc
  rw [if_pos (by rw [h1, ht]; decide)]
  exact hs
end L2
namespace L2
open PySem PySem.Spec PyProof.Rows
def strAt (σ : St) (i : Nat) : Str := match σ[i]? with | some (some (.str z)) => z | _ => ""
def intAt (σ : St) (i : Nat) : Int := match σ[i]? with | some (some (.int z)) => z | _ => 0
structure SI (X : Cx) (D : St -> Prop) (e : Expr) (f : St -> Int) (n : Nat) : Prop where
  ev : PE X e (fun σ H Q => D σ /\ Q (.int (f σ)) H)
  lim : ∀ σ, D σ -> (f σ).natAbs <= n
  st : ∀ es env, starEach (e :: es) env = (false, eval e env) :: starEach es env
structure SS (X : Cx) (D : St -> Prop) (e : Expr) (f : St -> Str) (n : Nat) : Prop where
  ev : PE X e (fun σ H Q => D σ /\ Q (.str (f σ)) H)
  len : ∀ σ, D σ -> (f σ).length <= n
  st : ∀ es env, starEach (e :: es) env = (false, eval e env) :: starEach es env
structure SL (X : Cx) (D : St -> Prop) (es : List Expr) (fs : List (St -> Str)) : Prop where
  ev : PA X es (fun σ H Q => D σ /\ Q (fs.map fun f => V.str (f σ)) H)
  len : ∀ σ, D σ -> ∀ f ∈ fs, (f σ).length <= 100000
theorem PE.im {X : Cx} {e : Expr} {t t' : TE} (h : PE X e t) (f : ∀ σ H Q, t' σ H Q -> t σ H Q) : PE X e t' := fun pins s σ H Q I hw => h pins s σ H Q I (f _ _ _ hw)
section
variable {X : Cx} {D : St -> Prop} {a b e : Expr} {es : List Expr} {pos p : Pos}
theorem eU {σ : St} {i : Nat} {z : Str} (h : σ[i]? = some (some (.str z))) : strAt σ i = z := by unfold strAt; rw [h]
theorem fU {σ : St} {i : Nat} {z : Int} (h : σ[i]? = some (some (.int z))) : intAt σ i = z := by unfold intAt; rw [h]
theorem si_var {i n : Nat} {x : Str} (h : ∀ σ, D σ -> ∃ z : Int, σ[i]? = some (some (.int z)) /\ z.natAbs <= n) (hN : X.N[i]? = some x := by rfl) (hv : Vis X.env.scope x := by first | exact Or.inl rfl | exact Or.inr (Or.inl rfl)) (hd : (x == ("__debug__" : Str)) = false := by decide) (hcd : (x == ("__classdict__" : Str)) = false := by decide) : SI X D (.Name x pos) (fun σ => intAt σ i) n :=
  ⟨(oU hN hv hd hcd).im fun σ H Q hq => by obtain ⟨z, hz, _⟩ := h σ hq.1; exact ⟨.int z, hz, by have := hq.2; rwa [fU hz] at this⟩, fun σ d => by obtain ⟨z, hz, hn⟩ := h σ d; rw [fU hz]; exact hn, fun _ _ => rfl⟩
theorem ss_var {i n : Nat} {x : Str} (h : ∀ σ, D σ -> ∃ z : Str, σ[i]? = some (some (.str z)) /\ z.length <= n) (hN : X.N[i]? = some x := by rfl) (hv : Vis X.env.scope x := by first | exact Or.inl rfl | exact Or.inr (Or.inl rfl)) (hd : (x == ("__debug__" : Str)) = false := by decide) (hcd : (x == ("__classdict__" : Str)) = false := by decide) : SS X D (.Name x pos) (fun σ => strAt σ i) n :=
  ⟨(oU hN hv hd hcd).im fun σ H Q hq => by obtain ⟨z, hz, _⟩ := h σ hq.1; exact ⟨.str z, hz, by have := hq.2; rwa [eU hz] at this⟩, fun σ d => by obtain ⟨z, hz, hn⟩ := h σ d; rw [eU hz]; exact hn, fun _ _ => rfl⟩
theorem yJ {i : Int} {j} : SI X D (.Constant (.int i) j pos) (fun _ => i) i.natAbs := ⟨iQ.im fun σ H Q hq => hq.2, fun _ _ => Nat.le_refl _, fun _ _ => rfl⟩
theorem cQ {x : Str} {j} : SS X D (.Constant (.str x) j pos) (fun _ => x) x.length := ⟨oQ.im fun σ H Q hq => hq.2, fun _ _ => Nat.le_refl _, fun _ _ => rfl⟩
theorem bK {f g : St -> Int} {n m : Nat} (ha : SI X D a f n) (hb : SI X D b g m) : SI X D (.BinOp a .Add b pos) (fun σ => f σ + g σ) (n + m) :=
  ⟨(pQ eZ ha.ev hb.ev).im fun σ H Q hq => ⟨hq.1, hq.1, _, _, rfl, rfl, hq.2⟩, fun σ d => by have h1 := ha.lim σ d; have h2 := hb.lim σ d; show (f σ + g σ).natAbs <= n + m; omega, fun _ _ => rfl⟩
theorem cK {f g : St -> Int} {n m : Nat} (ha : SI X D a f n) (hb : SI X D b g m) : SI X D (.BinOp a .Sub b pos) (fun σ => f σ - g σ) (n + m) :=
  ⟨(pQ iX ha.ev hb.ev).im fun σ H Q hq => ⟨hq.1, hq.1, _, _, rfl, rfl, hq.2⟩, fun σ d => by have h1 := ha.lim σ d; have h2 := hb.lim σ d; show (f σ - g σ).natAbs <= n + m; omega, fun _ _ => rfl⟩
theorem zZ {n : Nat} (h : n <= 100000) : n <= sizeLine := by rw [sizeLine_eq]; omega
theorem bQ {f g : St -> Str} {n m : Nat} (ha : SS X D a f n) (hb : SS X D b g m) (h : n + m <= 100000 := by decide +kernel) : SS X D (.BinOp a .Add b pos) (fun σ => f σ ++ g σ) (n + m) :=
  ⟨(pQ uQ ha.ev hb.ev).im fun σ H Q hq => ⟨hq.1, hq.1, _, _, rfl, rfl, zZ (by have h1 := ha.len σ hq.1; have h2 := hb.len σ hq.1; omega), hq.2⟩, fun σ d => by
    have h1 := ha.len σ d; have h2 := hb.len σ d
    show (f σ ++ g σ).length <= n + m
    have e : (f σ ++ g σ).length = (f σ).length + (g σ).length := by show (f σ ++ g σ).cps.size = _; rw [PySem.Str.cps_append, Array.size_append]; rfl
    omega, fun _ _ => rfl⟩
theorem xQ {f : St -> Int} {n : Nat} (he : SI X D e f n) (hg : Gl X "str") (hm : X.mg "str" = none) (h : n <= 100000 := by decide +kernel) : SS X D (.Call (.Name "str" p) [e] [] pos) (fun σ => (toString (f σ) : Str)) 1921 :=
  have lg : ∀ σ, D σ -> (f σ).natAbs.log2 < 1920 := fun σ d => by
    have h1 := he.lim σ d
    by_cases h0 : (f σ).natAbs = 0
    . rw [h0]; decide
    . exact Nat.lt_trans ((Nat.log2_lt h0).mpr (Nat.lt_of_le_of_lt h1 (Nat.lt_of_le_of_lt h (by decide : 100000 < 2 ^ 17)))) (by decide)
  ⟨(iJ aJ hg hm (by decide +kernel) (aQ he.ev fQ (he.st [] X.env)) (by decide) (by decide) (he.st [] X.env) rfl).im fun σ H Q hq => ⟨hq.1, _, rfl, lg σ hq.1, hq.2⟩, fun σ d => PyProof.Rows.int_text_len_1921 (lg σ d), fun _ _ => rfl⟩
theorem aZ : SL X D [] [] := ⟨fun pos pins s σ H Q I h => fQ pos pins s σ H Q I h.2, fun _ _ _ h => nomatch h⟩
theorem eQ {f : St -> Str} {fs : List (St -> Str)} {n : Nat} (h : SS X D e f n) (r : SL X D es fs) (hn : n <= 100000 := by decide +kernel) : SL X D (e :: es) (f :: fs) :=
  ⟨fun pos pins s σ H Q I hq => aQ h.ev r.ev (h.st es X.env) pos pins s σ H Q I ⟨hq.1, hq.1, hq.2⟩, fun σ d g hg => by
    rcases List.mem_cons.mp hg with e | e
    . rw [e]; exact Nat.le_trans (h.len σ d) hn
    . exact r.len σ d g e⟩
theorem qJ {fs : List (St -> Str)} (h : SL X D es fs) (hn : fs.length <= 100000 := by decide) : PE X (.List es pos) (fun σ H Q => D σ /\ ((∀ z ∈ fs.map fun f => f σ, z.length <= 100000) -> ∀ p H', Same H H' -> H p = none -> H' p = some (.lst ((fs.map fun f => f σ).map V.str)) -> Q (.ref p) H')) :=
  (kZ h.ev).im fun σ H Q hq => ⟨hq.1, by rw [List.length_map]; exact zZ hn, fun p hp =>
    hq.2 (fun z hz => by obtain ⟨f, hf, e⟩ := List.mem_map.mp hz; rw [<- e]; exact h.len σ hq.1 f hf) p _ (Same.new hp _) hp (by rw [jQ, List.map_map]; rfl)⟩
theorem jZ {fs : List (St -> Str)} {ta : TE} {p' : Pos} (ha : PE X a ta) (h : SL X D es fs) (hn : fs.length <= 100000 := by decide) : PE X (.BinOp a .Add (.List es pos) p') (fun σ H Q => ta σ H fun v H1 => ∃ l xs, v = .ref l /\ H1 l = some (.lst xs) /\ D σ /\ xs.length + fs.length <= 100000 /\ ((∀ z ∈ fs.map fun f => f σ, z.length <= 100000) -> ∀ p H', Same H1 H' -> H1 p = none -> H' p = some (.lst (xs ++ (fs.map fun f => f σ).map V.str)) -> Q (.ref p) H')) := by
  intro pins s σ H Q I hq
  refine wpAny_BinOp (thn (ha pins s σ H _ I hq) fun v s1 hh => ?_)
  obtain ⟨x, H1, I1, r1, l, xs, ex, hl, d, n, q⟩ := hh
  refine thn (qJ h hn pins s1 σ H1 (fun y H2 => ∃ p, y = .ref p /\ H1 p = none /\ Same H1 H2 /\ H2 p = some (.lst ((fs.map fun f => f σ).map V.str))) I1 ⟨d, fun _ p H' s f e => ⟨p, rfl, f, s, e⟩⟩) fun u s2 hh => ?_
  obtain ⟨y, H2, I2, r2, p, ey, f, sm, e⟩ := hh
  subst ex
  subst ey
  refine dX pins s2 σ H2 _ _ v u Q I2 r1 r2 ⟨l, p, xs, _, rfl, rfl, sm _ _ hl, e, zZ (by rw [List.length_map, List.length_map]; exact n), fun p2 h2 => ?_⟩
  exact q (fun z hz => by obtain ⟨f, hf, e⟩ := List.mem_map.mp hz; rw [<- e]; exact h.len σ d f hf) p2 _ (sm.trans (Same.new h2 _)) (by
    cases e : H1 p2 with
    | none => rfl
    | some o => rw [sm _ _ e] at h2; exact nomatch h2) jQ
def DD : List (Option (Sum Nat Nat)) -> St -> Prop
  | [], _ => True
  | none :: ts, σ => DD ts σ.tail
  | some (.inl b) :: ts, σ => (∃ z : Int, σ[0]? = some (some (.int z)) /\ z.natAbs <= b) /\ DD ts σ.tail
  | some (.inr b) :: ts, σ => (∃ z : Str, σ[0]? = some (some (.str z)) /\ z.length <= b) /\ DD ts σ.tail
theorem DD.int : ∀ {ts : List (Option (Sum Nat Nat))} {σ : St} {i b : Nat}, ts[i]? = some (some (.inl b)) -> DD ts σ -> ∃ z : Int, σ[i]? = some (some (.int z)) /\ z.natAbs <= b
  | some (.inl c) :: ts, σ, 0, b, h, d => by cases h; exact d.1
  | some (.inl _) :: ts, σ, i + 1, b, h, d => by have := DD.int (ts := ts) (i := i) h d.2; rwa [List.getElem?_tail] at this
  | some (.inr _) :: ts, σ, i + 1, b, h, d => by have := DD.int (ts := ts) (i := i) h d.2; rwa [List.getElem?_tail] at this
  | none :: ts, σ, i + 1, b, h, d => by have := DD.int (ts := ts) (i := i) h d; rwa [List.getElem?_tail] at this
theorem DD.str : ∀ {ts : List (Option (Sum Nat Nat))} {σ : St} {i b : Nat}, ts[i]? = some (some (.inr b)) -> DD ts σ -> ∃ z : Str, σ[i]? = some (some (.str z)) /\ z.length <= b
  | some (.inr c) :: ts, σ, 0, b, h, d => by cases h; exact d.1
  | some (.inl _) :: ts, σ, i + 1, b, h, d => by have := DD.str (ts := ts) (i := i) h d.2; rwa [List.getElem?_tail] at this
  | some (.inr _) :: ts, σ, i + 1, b, h, d => by have := DD.str (ts := ts) (i := i) h d.2; rwa [List.getElem?_tail] at this
  | none :: ts, σ, i + 1, b, h, d => by have := DD.str (ts := ts) (i := i) h d; rwa [List.getElem?_tail] at this
theorem rZ (i : Nat) {ts : List (Option (Sum Nat Nat))} {b : Nat} {x : Str} (ht : ts[i]? = some (some (.inl b)) := by rfl) (hN : X.N[i]? = some x := by rfl) (hv : Vis X.env.scope x := by first | exact Or.inl rfl | exact Or.inr (Or.inl rfl)) (hd : (x == ("__debug__" : Str)) = false := by decide) (hcd : (x == ("__classdict__" : Str)) = false := by decide) : SI X (DD ts) (.Name x pos) (fun σ => intAt σ i) b := si_var (fun σ d => DD.int ht d) hN hv hd hcd
theorem kQ (i : Nat) {ts : List (Option (Sum Nat Nat))} {b : Nat} {x : Str} (ht : ts[i]? = some (some (.inr b)) := by rfl) (hN : X.N[i]? = some x := by rfl) (hv : Vis X.env.scope x := by first | exact Or.inl rfl | exact Or.inr (Or.inl rfl)) (hd : (x == ("__debug__" : Str)) = false := by decide) (hcd : (x == ("__classdict__" : Str)) = false := by decide) : SS X (DD ts) (.Name x pos) (fun σ => strAt σ i) b := ss_var (fun σ d => DD.str ht d) hN hv hd hcd
theorem mt_upper : MtR X "str.upper" (fun x vs H Q => ∃ z, x = .str z /\ vs = [] /\ z.length <= 1000 /\ ((Txt.upper z).length <= 3 * z.length -> Q (.str (Txt.upper z)) H)) := by
  intro pins s σ H x vs v us Q I rx rv h
  obtain ⟨z, rfl, rfl, hz, q⟩ := h
  obtain ⟨t, rfl⟩ := rx
  have hus := rv.zero
  subst hus
  exact SCL.upper (by omega) fun hl => ⟨.str _, H, I.tok _, ⟨_, rfl⟩, q hl⟩
theorem ss_up {f : St -> Str} {n : Nat} {ap : Pos} (h : SS X D a f n) (hn : n <= 1000 := by decide) (hbase : attributeBase a "upper" X.env (eval a X.env) = eval a X.env := by rfl) (hline : (ap.endLine == pos.line) = true := by rfl) : SS X D (.Call (.Attribute a "upper" ap) [] [] pos) (fun σ => Txt.upper (f σ)) (3 * n) :=
  ⟨(pe_bm0 PySem.F.plainAttrs_str PySem.F.slot_str_upper PySem.F.type_str_upper mt_upper h.ev hbase hline).im fun σ H Q hq => ⟨hq.1, rfl, _, rfl, rfl, Nat.le_trans (h.len σ hq.1) hn, fun _ => hq.2⟩, fun σ d => Nat.le_trans (len_upper (f σ)) (Nat.mul_le_mul_left 3 (h.len σ d)), fun _ _ => rfl⟩
theorem sZ {zs : List Str} {k : Int} (h0 : 0 <= k) (h1 : k < zs.length) : ∃ z ∈ zs, atI (zs.map V.str) k = some (.str z) := by
  obtain ⟨n, rfl⟩ := Int.eq_ofNat_of_zero_le h0
  have hn : n < zs.length := by omega
  exact ⟨zs[n], List.getElem_mem hn, qZ (by rw [List.getElem?_map, List.getElem?_eq_getElem hn]; rfl)⟩
end
end L2
namespace K25
open PySem L2
def top (i : Nat) : Stmt := PySem.Challenge.pw_sayswho_k25_sayings_refused.main.body.getD i (.Pass ⟨0, 0, 0, 0⟩)
abbrev sPWithNumber : Stmt := top 12
abbrev sPRests : Stmt := top 13
abbrev sPEithers : Stmt := top 14
abbrev sPRisingPairs : Stmt := top 15
abbrev sPUnlikePairs : Stmt := top 16
abbrev sPWithPair : Stmt := top 17
abbrev sPWithPairAndNumber : Stmt := top 18
abbrev sPGaps : Stmt := top 19
abbrev sPWithThree : Stmt := top 20
abbrev sPSayings : Stmt := top 21
abbrev sPShownSaying : Stmt := top 22
abbrev sPReadSaying : Stmt := top 23
abbrev sNext : Stmt := top 25
abbrev sCells : Stmt := top 26
abbrev sBoxes : Stmt := top 27
abbrev sOther : Stmt := top 28
abbrev sLetters : Stmt := top 29
abbrev sNames : Stmt := top 30
abbrev sNumbers : Stmt := top 31
abbrev sWords : Stmt := top 32
abbrev sFigures : Stmt := top 33
abbrev sTwo : Stmt := top 34
abbrev sThree : Stmt := top 35
abbrev sStrange : Stmt := top 36
abbrev sBad : Stmt := top 37
abbrev sRefused : Stmt := top 38
abbrev sCase : Stmt := top 39
abbrev sLaw : Stmt := top 40
structure Blt (mg : Str -> Option Value) : Prop where
  ValueError : mg "ValueError" = none
  abs : mg "abs" = none
  enumerate : mg "enumerate" = none
  isinstance : mg "isinstance" = none
  len : mg "len" = none
  list : mg "list" = none
  min : mg "min" = none
  range : mg "range" = none
  str : mg "str" = none
  tuple : mg "tuple" = none
theorem bt_abs : bootBuiltins "abs" = some (.builtin "abs") := by decide +kernel
theorem tZ : bootBuiltins "isinstance" = some (.builtin "isinstance") := by decide +kernel
theorem eX : bootBuiltins "len" = some (.builtin "len") := by decide +kernel
theorem bt_list : bootBuiltins "list" = some (.type "list") := by decide +kernel
theorem bt_min : bootBuiltins "min" = some (.builtin "min") := by decide +kernel
theorem zU : bootBuiltins "str" = some (.type "str") := by decide +kernel
theorem bt_tuple : bootBuiltins "tuple" = some (.type "tuple") := by decide +kernel
structure Gdb (w : World) (K : PySem.W.Frag) (mg : Str -> Option Value) : Prop where
  WRITTEN : GDT w K mg "WRITTEN" [("is", ["BOX", "=", "NUMBER"]), ("from", ["BOX", ">=", "NUMBER"]), ("to", ["BOX", "<=", "NUMBER"]), ("rest", ["BOX", "rest", "NUMBER", "=", "NUMBER"]), ("either", ["BOX", "in", "NUMBER", "NUMBER"]), ("never", ["BOX", "not", "NUMBER"]), ("same", ["BOX", "=", "BOX"]), ("below", ["BOX", "<", "BOX"]), ("most", ["BOX", "<=", "BOX"]), ("gap", ["BOX", "-", "BOX", "=", "NUMBER"]), ("sum", ["BOX", "+", "BOX", "=", "NUMBER"]), ("adds", ["BOX", "+", "BOX", "=", "BOX"]), ("times", ["BOX", "*", "BOX", "=", "BOX"])]
structure Glb (K : PySem.W.Frag) (mg : Str -> Option Value) : Prop where
  LEAST_DIVISOR : GI mg "LEAST_DIVISOR" 2
  MOST_DIVISOR : GI mg "MOST_DIVISOR" 6
  WIDEST_GAP : GI mg "WIDEST_GAP" 20
  WIDEST_SUM : GI mg "WIDEST_SUM" 40
local macro_rules | `(tactic| wtm_at "h") => `(tactic| first | assumption | exact jQ)
local macro_rules | `(tactic| wtm_at "c") => `(tactic| first | exact p1018 | exact cmr (by decide) (by decide) | exact cm (by decide) (by decide) | exact cm (by omega) (by omega) | exact ⟨by decide, by decide⟩ | (dsimp only; omega) | omega | assumption)
local macro_rules | `(tactic| wtm_at "s") => `(tactic| first | refine ⟨_, rfl, ?_⟩ | refine ⟨_, _, rfl, rfl, ?_⟩ | refine ⟨rfl, ?_⟩ | refine ⟨_, _, _, _, rfl, rfl, SqT.of (by wtm_at "h"), rfl, ?_⟩ | refine ⟨_, _, _, _, rfl, rfl, SqL.of (by wtm_at "h"), rfl, ?_⟩ | refine And.intro (by wtm_at "c") ?_)
local macro_rules | `(tactic| wtm_at "ss") => `(tactic| repeat wtm_at "s")
def PotAt (H : Hp) (r : Addr) : Prop := ∃ c k : Int, H r = some (.lst [.int c, .int k])
theorem PotAt.mono {H H' : Hp} {r : Addr} (h : PotAt H r) (e : Same H H') : PotAt H' r := by
  obtain ⟨a, b, h1⟩ := h
  exact ⟨a, b, e _ _ h1⟩
theorem PotAt.new {H : Hp} {r p : Addr} (h : PotAt H r) (hp : H p = none) (o : HO) : PotAt (upd H p o) r := h.mono (Same.new hp o)
theorem PotAt.up {H : Hp} {r p : Addr} {o : HO} (h : PotAt H r) (hp : r ≠ p) : PotAt (upd H p o) r := by
  obtain ⟨a, b, h1⟩ := h
  exact ⟨a, b, by rw [sQ hp]; exact h1⟩
theorem PotAt.ne {H : Hp} {r p : Addr} {o : HO} (h : PotAt H r) (hp : H p = some o) (ho : ∀ a b : Int, o ≠ .lst [.int a, .int b]) : p ≠ r := fun z => by
  obtain ⟨a, b, h1⟩ := h
  rw [z, h1] at hp
  cases hp
  exact ho a b rfl
theorem PotAt.ne_tup {H : Hp} {r p : Addr} {xs : List V} (h : PotAt H r) (hp : H p = some (.tup xs)) : p ≠ r := h.ne hp fun _ _ z => nomatch z
theorem PotAt.nn {H : Hp} {r p : Addr} (h : PotAt H r) (hp : H p = none) : p ≠ r := fun z => by
  obtain ⟨a, b, h1⟩ := h
  rw [z, h1] at hp
  cases hp
def spNext : Sp := fun vs H Q _ => ∃ (r : Addr) (many : Int), vs = [.ref r, .int many] /\ PotAt H r /\ Few many /\ ∀ (n : Int) (H' : Hp), 0 <= n -> n < many -> But r H H' -> PotAt H' r -> Q (.int n) H'
def spCells (K : PySem.W.Frag) : Sp := fun vs H Q _ => ∃ (a : Addr) (ns : List Int), vs = [.ref a] /\ SqL K H a (ns.map V.int) /\ ns.length <= 63 /\ ∀ (p : Addr) (ms : List Int), H p = none -> 0 < ms.length -> ms.length <= 63 -> Q (.ref p) (upd H p (.lst (ms.map V.int)))
section
variable {P : Program} {w : World} {K : PySem.W.Frag} {mg : Str -> Option Value} {base : Heap}
theorem scNext : FnScope ["pot", "many", "cell", "stir"] ["pot", "many"] (defScope sNext) := ⟨rfl, rfl, rfl, by decide +kernel, rfl, by decide +kernel, by decide +kernel⟩
theorem ok_next (h : Has K mg "_law_next" sNext ["pot", "many"]) : Cal P w K mg base 1 "_law_next" ["pot", "many"] spNext := by
  refine h.cal scNext (fun vs H Q E h => ?_) (fun f cdv A outer s H vs Q E hr h => ?_)
  . obtain ⟨r, m, rfl, _⟩ := h
    rfl
  obtain ⟨r, many, rfl, ⟨c, k, hR⟩, hm, q⟩ := h
  refine ⟨_, (dQ (tY (pQ eZ (bZ vQ (pv 0) iQ (fun _ _ => rfl)) iQ) (pg_sub (pv 0) iQ vK))
    (dQ (lQ (i := 2) scNext.nd rfl (Or.inl rfl) (bZ vQ (pv 0) iQ (fun _ _ => rfl)))
    (dQ (wZ (wQ op_ge (pv 2) (pQ op_pow iQ iQ) (nomark _)) (dQ (tY (pQ op_fdivB (pv 2) (pv 1)) (pg_sub (pv 0) iQ vK))
    (mQ (tQ (pQ rV (pv 2) (pv 1))))) fZ)
    (dQ (lQ (i := 3) scNext.nd rfl (Or.inl rfl) (pQ rV (pQ eZ (pQ eZ (pQ qV (pv 2) iQ) (pQ qV (bZ vQ (pv 0) iQ (fun _ _ => rfl)) iQ)) iQ) iQ))
    (dQ (lQ (i := 3) scNext.nd rfl (Or.inl rfl) (pQ rV (pQ qV (pv 3) (pv 3)) iQ))
    (mQ (tQ (pQ rV (pQ oO (pQ rV (pQ eZ (pQ qV (pv 3) iQ) (pQ qV (bZ vQ (pv 0) iQ (fun _ _ => rfl)) iQ)) iQ) iQ) (pv 1))))))))), ?_⟩
  wtm_at "ss"
  refine ⟨r, _, _, _, rfl, rfl, hR, rfl, ?_⟩
  have hR2 : (upd H r (.lst [.int c, .int (k + 1)])) r = some (.lst [.int c, .int (k + 1)]) := jQ
  refine ⟨_, rfl, r, _, _, _, rfl, rfl, SqL.of hR2, rfl, ?_⟩
  wtm_at "ss"
  refine gX (fun _ => ?_) (fun _ => ?_)
  . refine ⟨_, rfl, _, rfl, _, _, rfl, rfl, hm, ?_⟩
    refine ⟨_, rfl, r, _, _, _, rfl, rfl, hR2, rfl, ?_⟩
    refine ⟨_, rfl, _, rfl, _, _, rfl, rfl, hm.1, ?_⟩
    exact q _ _ (Int.emod_nonneg _ (by have := hm.1; omega)) (Int.emod_lt_of_pos _ hm.1) (by rw [upd_upd]; exact But.upd _) ⟨c / many, k + 1, jQ⟩
  . wtm_at "ss"
    refine ⟨hm.1, ?_⟩
    exact q _ _ (Int.emod_nonneg _ (by have := hm.1; omega)) (Int.emod_lt_of_pos _ hm.1) (But.upd _) ⟨c, k + 1, hR2⟩
theorem scCells : FnScope ["script"] ["script"] (defScope sCells) := ⟨rfl, rfl, rfl, by decide +kernel, rfl, by decide +kernel, by decide +kernel⟩
theorem ok_cells (h : Has K mg "_law_cells" sCells ["script"]) (B : Blt mg) : Cal P w K mg base 1 "_law_cells" ["script"] (spCells K) := by
  refine h.cal scCells (fun vs H Q E h => ?_) (fun f cdv A outer s H vs Q E hr h => ?_)
  . obtain ⟨a, ns, rfl, _⟩ := h
    rfl
  obtain ⟨a, ns, rfl, hS, h63, q⟩ := h
  refine ⟨_, (dQ (wZ (wQ jX (cZ zQ rfl B.len eX (aQ (pv 0) fQ)) iQ (nomark _)) (mQ (tQ (kZ (aQ iQ fQ)))) fZ)
    (mQ (tQ (tJ sl_list (pv 0) kW (lW iQ))))), ?_⟩
  refine ⟨_, rfl, a, _, rfl, .inl hS, rfl, _, rfl, ?_⟩
  refine gX (fun _ => ?_) (fun c => ?_)
  . exact ⟨(by show 1 <= sizeLine; decide), fun p hp => q p [0] hp (by decide) (by decide)⟩
  . refine ⟨_, rfl, _, rfl, a, _, rfl, hS, fun p hp => ?_⟩
    have hne : ns.length ≠ 0 := fun z => c (by rw [List.length_map, z]; rfl)
    have e1 : HT.sIx (ns.map V.int).length 0 (none : Option Int) = 0 := rfl
    have e2 : HT.sIx (ns.map V.int).length (ns.map V.int).length (some 63) = (ns.map V.int).length := by
      rw [List.length_map]
      show (if (63 : Int) < 0 then ((63 : Int) + (ns.length : Int)).toNat else Nat.min (63 : Int).toNat ns.length) = ns.length
      rw [if_neg (by decide)]
      exact Nat.min_eq_right h63
    have e : cutV (ns.map V.int) none (some 63) = ns.map V.int := by
      unfold cutV
      rw [e1, e2, List.drop_zero]
      exact List.take_of_length_le (by omega)
    rw [e]
    exact q p ns hp (by omega) h63
end
structure Box where
  nm : Str
  lo : Int
  hi : Int
  fst : Int
def Box.tup (b : Box) : List V := [.str b.nm, .int b.lo, .int b.hi, .int b.fst]
structure Box.Ok (b : Box) : Prop where
  fl : b.lo <= b.fst
  fh : b.fst <= b.hi
  lo : -99 <= b.lo
  hi : b.hi <= 99
  w : b.hi - b.lo < 20
def Box.size (b : Box) : Nat := (b.hi - b.lo + 1).toNat
def vol : List Box -> Nat
  | [] => 1
  | b :: r => b.size * vol r
theorem eK (ys : List Box) : ∀ xs : List Box, vol (xs ++ ys) = vol xs * vol ys
  | [] => by simp [vol]
  | c :: r => by
    show c.size * vol (r ++ ys) = c.size * vol r * vol ys
    rw [eK ys r, Nat.mul_assoc]
theorem yO : ∀ xs : List Box, vol xs.reverse = vol xs
  | [] => rfl
  | c :: r => by
    rw [List.reverse_cons, eK, yO r]
    show vol r * (c.size * 1) = c.size * vol r
    rw [Nat.mul_one, Nat.mul_comm]
def BoxAt (H : Hp) (v : V) (b : Box) : Prop := ∃ p, v = .ref p /\ H p = some (.tup b.tup)
structure BoxesAt (H : Hp) (pb : Addr) (us : List V) (bs : List Box) : Prop where
  at_ : H pb = some (.lst us)
  each : All2 (BoxAt H) us bs
theorem BoxAt.same {H H' : Hp} {v : V} {b : Box} (h : BoxAt H v b) (s : Same H H') : BoxAt H' v b := by
  obtain ⟨p, rfl, hp⟩ := h
  exact ⟨p, rfl, s _ _ hp⟩
theorem BoxesAt.same {H H' : Hp} {pb : Addr} {us : List V} {bs : List Box} (h : BoxesAt H pb us bs) (s : Same H H') : BoxesAt H' pb us bs := ⟨s _ _ h.at_, h.each.mono fun _ _ z => z.same s⟩
theorem BoxAt.but {H H' : Hp} {r : Addr} {v : V} {b : Box} (h : BoxAt H v b) (P : PotAt H r) (s : But r H H') : BoxAt H' v b := by
  obtain ⟨p, rfl, hp⟩ := h
  exact ⟨p, rfl, s _ _ (P.ne_tup hp) hp⟩
theorem BoxesAt.but {H H' : Hp} {r pb : Addr} {us : List V} {bs : List Box} (h : BoxesAt H pb us bs) (P : PotAt H r) (n : pb ≠ r) (s : But r H H') : BoxesAt H' pb us bs := ⟨s _ _ n h.at_, h.each.mono fun _ _ z => z.but P s⟩
theorem All2.rev {α β : Type} {R : α -> β -> Prop} {xs : List α} {ys : List β} (h : All2 R xs ys) : All2 R xs.reverse ys.reverse := by
  have hl := h.1
  refine ⟨by simp [hl], fun i x y e1 e2 => ?_⟩
  have h1 : i < xs.length := by have := (List.getElem?_eq_some_iff.mp e1).1; rwa [List.length_reverse] at this
  rw [List.getElem?_reverse h1] at e1
  rw [List.getElem?_reverse (by omega)] at e2
  rw [<- hl] at e2
  exact h.2 _ x y e1 e2
structure Drawn (zs : List Str) (most : Int) (bs : List Box) : Prop where
  l1 : 1 <= bs.length
  l4 : bs.length <= 4
  ok : ∀ b ∈ bs, b.Ok
  vol : (vol bs : Int) <= most
  nms : bs.map Box.nm = zs.take bs.length \/ bs.map Box.nm = (zs.take bs.length).reverse
def spBoxes : Sp := fun vs H Q _ => ∃ (r pn : Addr) (most : Int) (zs : List Str), vs = [.ref r, .int most, .ref pn] /\ PotAt H r /\ 1 <= most /\ most <= 400 /\ H pn = some (.lst (zs.map V.str)) /\ pn ≠ r /\ 4 <= zs.length /\
  ∀ (pb : Addr) (us : List V) (bs : List Box) (H' : Hp), H pb = none -> pb ≠ r -> But r H H' -> PotAt H' r -> BoxesAt H' pb us bs -> Drawn zs most bs -> Q (.ref pb) H'
section
variable {P : Program} {w : World} {K : PySem.W.Frag} {mg : Str -> Option Value} {base : Heap}
theorem zO : ∀ {bs : List Box}, (∀ b ∈ bs, b.Ok) -> 1 <= vol bs
  | [], _ => Nat.le_refl 1
  | b :: t, h => by
    have hb := h b List.mem_cons_self
    have h1 : 1 <= b.size := by unfold Box.size; have := hb.fl; have := hb.fh; omega
    exact Nat.mul_le_mul h1 (zO fun c hc => h c (List.mem_cons_of_mem _ hc))
theorem mo_small {bs : List Box} {mo most : Int} (h : ∀ b ∈ bs, b.Ok) (h1 : 1 <= mo) (h2 : (vol bs : Int) * mo <= most) (h3 : most <= 400) : mo < 1073741824 := by
  have hv := zO h
  have : (1 : Int) * mo <= (vol bs : Int) * mo := Int.mul_le_mul_of_nonneg_right (by omega) (by omega)
  omega
theorem box_ok {z : Str} {low wide fs : Int} (f0 : 0 <= fs) (f1 : fs < wide) (l0 : -99 <= low) (l1 : low + wide - 1 <= 99) (w : wide <= 20) : Box.Ok ⟨z, low, low + wide - 1, low + fs⟩ :=
  ⟨(show low <= low + fs by omega), (show low + fs <= low + wide - 1 by omega), l0, l1, (show low + wide - 1 - low < 20 by omega)⟩
theorem min_ok {mo cap : Int} (h1 : 1 <= mo) (c0 : 0 < cap) (c1 : cap <= 20) : ∃ mn : Int, (if mo < cap then mo else cap) = mn /\ 1 <= mn /\ mn <= 20 /\ mn <= mo := by
  by_cases h : mo < cap
  . exact ⟨mo, if_pos h, h1, Int.le_of_lt (Int.lt_of_lt_of_le h c1), Int.le_refl _⟩
  . exact ⟨cap, if_neg h, c0, c1, Int.not_lt.mp h⟩
theorem at3c {z : Int} (h0 : 0 <= z) (h1 : z < 3) : ∃ k : Int, atI ([.int 20, .int 4, .int 3] : List V) z = some (.int k) /\ 0 < k /\ k <= 20 := by
  have h : z = 0 \/ z = 1 \/ z = 2 := by omega
  rcases h with rfl | rfl | rfl
  . exact ⟨20, rfl, by decide, by decide⟩
  . exact ⟨4, rfl, by decide, by decide⟩
  . exact ⟨3, rfl, by decide, by decide⟩
theorem scBoxes : FnScope ["pot", "most", "names", "many", "cap", "near", "boxes", "k", "wide", "low"] ["pot", "most", "names"] (defScope sBoxes) := ⟨rfl, rfl, rfl, by decide +kernel, rfl, by decide +kernel, by decide +kernel⟩
theorem ok_boxes (h : Has K mg "_law_boxes" sBoxes ["pot", "most", "names"]) (B : Blt mg) (cN : Cal P w K mg base 1 "_law_next" ["pot", "many"] spNext) : Cal P w K mg base 2 "_law_boxes" ["pot", "most", "names"] spBoxes := by
  refine h.cal scBoxes (fun vs H Q E h => ?_) (fun f cdv A outer s H vs Q E hr h => ?_)
  . obtain ⟨r, pn, m, zs, rfl, _⟩ := h
    rfl
  obtain ⟨r, pn, most, zs, rfl, hR, m1, m4, hn, nnr, z4, q⟩ := h
  refine ⟨_, (dQ (lQ (i := 3) scBoxes.nd rfl (Or.inl rfl) (pQ eZ iQ (nQ cN hr rfl (aQ (pv 0) (aQ iQ fQ)))))
    (dQ (lQ (i := 4) scBoxes.nd rfl (Or.inl rfl) (bZ vQ (kZ (aQ iQ (aQ iQ (aQ iQ fQ)))) (nQ cN hr rfl (aQ (pv 0) (aQ iQ fQ))) (fun _ _ => rfl)))
    (dQ (lQ (i := 5) scBoxes.nd rfl (Or.inl rfl) (nQ cN hr rfl (aQ (pv 0) (aQ iQ fQ))))
    (dQ (lQ (i := 6) scBoxes.nd rfl (Or.inl rfl) (kZ fQ))
    (dQ (aX PassesOwn.never rfl (yZ rfl B.range (aQ (pv 3) fQ)) (rQ (i := 7) scBoxes.nd rfl (Or.inl rfl)) (dQ (lQ (i := 8) scBoxes.nd rfl (Or.inl rfl) (pQ eZ iQ (nQ cN hr rfl (aQ (pv 0) (aQ (cZ (call_min2 rfl) rfl B.min bt_min (aQ (pv 4) (aQ (pv 1) fQ))) fQ)))))
    (dQ (lQ (i := 1) scBoxes.nd rfl (Or.inl rfl) (pQ oO (pv 1) (pv 8)))
    (dQ (lQ (i := 9) scBoxes.nd rfl (Or.inl rfl) (pQ iX (nQ cN hr rfl (aQ (pv 0) (aQ iQ fQ))) iQ))
    (dQ (wZ (wQ jX (pv 5) iQ (nomark _)) (mQ (lQ (i := 9) scBoxes.nd rfl (Or.inl rfl) (pQ iX (nQ cN hr rfl (aQ (pv 0) (aQ (pQ iX iQ (pv 8)) fQ))) iQ))) fZ)
    (mQ (xZ (yX PySem.F.plainAttrs_list PySem.F.slot_list_append PySem.F.type_list_append kX (pv 6) (aQ (bX (aQ (bZ vQ (pv 2) (pv 7) (fun _ _ => rfl)) (aQ (pv 9) (aQ (pQ iX (pQ eZ (pv 9) (pv 8)) iQ) (aQ (pQ eZ (pv 9) (nQ cN hr rfl (aQ (pv 0) (aQ (pv 8) fQ)))) fQ))))) fQ)))))))))
    (dQ (wZ (wQ jX (nQ cN hr rfl (aQ (pv 0) (aQ iQ fQ))) iQ (nomark _)) (mQ (tQ (pe_rev (pv 6) (gY wW iQ)))) fZ)
    (mQ (tQ (pv 6))))))))), ?_⟩
  wtm_at "ss"
  refine ⟨r, 4, rfl, hR, yQ (by decide) (by decide), fun m H1 m0 m1' b1 P1 => ?_⟩
  wtm_at "ss"
  refine ⟨(by show 3 <= sizeLine; decide), fun l hl => ?_⟩
  wtm_at "ss"
  have nlr : l ≠ r := P1.nn hl
  have P1' := P1.new hl (.lst [.int 20, .int 4, .int 3])
  have b1' := b1.trans (.new hl (.lst [.int 20, .int 4, .int 3]))
  have hl1 : upd H1 l (.lst [.int 20, .int 4, .int 3]) l = some (.lst [.int 20, .int 4, .int 3]) := jQ
  generalize upd H1 l (.lst [.int 20, .int 4, .int 3]) = H1' at *
  refine ⟨r, 3, rfl, P1', yQ (by decide) (by decide), fun z H2 z0 z1 b2 P2 => ?_⟩
  obtain ⟨cap, hcap, c0, c1⟩ := at3c z0 z1
  refine ⟨l, _, _, _, rfl, rfl, SqL.of (b2 _ _ nlr hl1), hcap, ?_⟩
  wtm_at "ss"
  refine ⟨r, 4, rfl, P2, yQ (by decide) (by decide), fun near H3 _ _ b3 P3 => ?_⟩
  wtm_at "ss"
  refine ⟨(by show 0 <= sizeLine; decide), fun pb hpb => ?_⟩
  have npr : pb ≠ r := P3.nn hpb
  have b3' := b1'.trans (b2.trans b3)
  have hpbH : H pb = none := But.none b3' npr hpb
  wtm_at "ss"
  refine fX (lo := 0) (n := (1 + m).toNat) (fun i σ H4 => ∃ (us : List V) (bs : List Box) (mo : Int) (c7 c8 c9 : Option V), σ = [some (.ref r), some (.int mo), some (.ref pn), some (.int (1 + m)), some (.int cap), some (.int near), some (.ref pb), c7, c8, c9] /\
      us.length = i /\ 1 <= mo /\ (vol bs : Int) * mo <= most /\ bs.map Box.nm = zs.take i /\ (∀ b ∈ bs, b.Ok) /\ BoxesAt H4 pb us bs /\ But r H H4 /\ PotAt H4 r)
    ⟨[], [], most, none, none, none, rfl, rfl, m1, (Int.le_of_eq (Int.one_mul most)), rfl, (fun b hb => nomatch hb), ⟨jQ, All2.nil⟩, b3'.trans (.new hpb _), P3.new hpb _⟩ ?_ ?_
  . rintro i σ H4 hi ⟨us, bs, mo, c7, c8, c9, rfl, hus, mo1, hvol, hnm, hok, X4, b4, P4⟩
    have e0 : (0 + (i : Int)) = (i : Int) := by omega
    rw [e0]
    wtm_at "ss"
    refine ⟨_, _, rfl, ?_⟩
    obtain ⟨mn, hmn, mn1, mn2, mn3⟩ : ∃ mn : Int, (if mo < cap then mo else cap) = mn /\ 1 <= mn /\ mn <= 20 /\ mn <= mo := min_ok mo1 c0 c1
    rw [hmn]
    refine ⟨r, mn, rfl, P4, yQ (by omega) (by omega), fun wd H5 wd0 wd1 b5 P5 => ?_⟩
    have X5 := X4.but P4 npr b5
    refine ⟨_, _, rfl, rfl, ?_⟩
    dsimp only
    generalize hw : 1 + wd = wide
    have hmo : mo < 1073741824 := mo_small hok mo1 hvol m4
    refine ⟨_, rfl, _, rfl, _, _, rfl, rfl, ⟨(show (0 : Int) < wide by omega), (show wide < 1073741824 by omega)⟩, ?_⟩
    wtm_at "ss"
    refine ⟨r, 9, rfl, P5, yQ (by decide) (by decide), fun lw H6 lw0 lw1 b6 P6 => ?_⟩
    have X6 := X5.but P5 npr b6
    have b46 := b4.trans (b5.trans b6)
    have hwp : 0 < wide := by omega
    have mo1' : 1 <= mo / wide := (Int.le_ediv_iff_mul_le hwp).mpr (by rw [Int.one_mul]; omega)
    refine ⟨_, _, rfl, rfl, gset (pJ (fun σ' H' => ∃ low : Int, σ' = [some (.ref r), some (.int (mo / wide)), some (.ref pn), some (.int (1 + m)), some (.int cap), some (.int near), some (.ref pb), some (.int i), some (.int wide), some (.int low)] /\ -99 <= low /\ low + wide - 1 <= 99 /\ BoxesAt H' pb us bs /\ But r H H' /\ PotAt H' r) (fun R' hR' => ?_) ?_)⟩
    . wtm_at "ss"
      refine gX (fun _ => ?_) (fun _ => ?_)
      . wtm_at "ss"
        refine ⟨r, 200 - wide, rfl, P6, yQ (by omega) (by omega), fun l2 H7 l20 l21 b7 P7 => ?_⟩
        wtm_at "ss"
        exact hR' _ _ ⟨l2 - 99, rfl, by omega, by omega, X6.but P6 npr b7, b46.trans b7, P7⟩
      . exact hR' _ _ ⟨lw - 6, rfl, by omega, by omega, X6, b46, P6⟩
    rintro σ7 H7 ⟨low, rfl, lo1, lo2, X7, b7, P7⟩
    refine ⟨_, rfl, .inl ⟨rfl, _, SqL.of X7.at_⟩, ?_⟩
    have hi4 : i < zs.length := by omega
    refine ⟨_, rfl, _, rfl, pn, _, _, _, rfl, rfl, SqL.of (b7 _ _ nnr hn), qZ (j := i) (v := .str zs[i]) (by rw [List.getElem?_map, List.getElem?_eq_getElem hi4]; rfl), ?_⟩
    wtm_at "ss"
    refine ⟨r, wide, rfl, P7, yQ (by omega) (by omega), fun fs H8 fs0 fs1 b8 P8 => ?_⟩
    have X8 := X7.but P7 npr b8
    wtm_at "ss"
    refine ⟨(by show 4 <= sizeLine; decide), fun pt hpt => ?_⟩
    have s9 := Same.new hpt (.tup [.str zs[i], .int low, .int (low + wide - 1), .int (low + fs)])
    have X9 := X8.same s9
    refine ⟨pb, us, _, rfl, rfl, X9.at_, small1000 (by omega), ?_⟩
    have b9 := (b7.trans b8).trans (But.of s9)
    have P9 := P8.mono s9
    have t9 : (upd H8 pt (.tup [.str zs[i], .int low, .int (low + wide - 1), .int (low + fs)])) pt = some (.tup [.str zs[i], .int low, .int (low + wide - 1), .int (low + fs)]) := jQ
    generalize (upd H8 pt (.tup [.str zs[i], .int low, .int (low + wide - 1), .int (low + fs)])) = H9 at *
    have stay : ∀ v b, BoxAt H9 v b -> BoxAt (upd H9 pb (.lst (us ++ [.ref pt]))) v b := fun v b ⟨p, e, hp⟩ => ⟨p, e, by rw [sQ (oK hp X9.at_ (fun z => nomatch z))]; exact hp⟩
    have hbl : bs.length = i := by rw [<- X9.each.1, hus]
    refine ⟨us ++ [.ref pt], bs ++ [⟨zs[i], low, low + wide - 1, low + fs⟩], mo / wide, _, _, _, rfl, by rw [List.length_append, hus]; rfl, mo1', ?_, ?_, ?_, ⟨jQ, (X9.each.mono stay).snoc (stay (.ref pt) ⟨zs[i], low, low + wide - 1, low + fs⟩ ⟨pt, rfl, t9⟩)⟩, b9.put hpbH, P9.up npr.symm⟩
    . rw [eK]
      show ((vol bs * (Box.size ⟨zs[i], low, low + wide - 1, low + fs⟩ * 1) : Nat) : Int) * (mo / wide) <= most
      have es : Box.size ⟨zs[i], low, low + wide - 1, low + fs⟩ = wide.toNat := by
        show (low + wide - 1 - low + 1).toNat = _
        congr 1
        omega
      rw [es, Nat.mul_one, Int.natCast_mul, Int.mul_assoc, show ((wide.toNat : Nat) : Int) = wide by omega]
      exact Int.le_trans (Int.mul_le_mul_of_nonneg_left (Int.mul_ediv_self_le (by omega)) (by omega)) hvol
    . rw [List.map_append, hnm, List.take_add_one, List.getElem?_eq_getElem hi4]
      rfl
    . intro b hb
      rcases List.mem_append.mp hb with hb | hb
      . exact hok b hb
      . rw [List.mem_singleton.mp hb]
        exact box_ok fs0 fs1 lo1 lo2 (by omega)
  rintro σ H4 ⟨us, bs, mo, c7, c8, c9, rfl, hus, mo1, hvol, hnm, hok, X4, b4, P4⟩
  have hbl : bs.length = (1 + m).toNat := by rw [<- X4.each.1, hus]
  have hv : (vol bs : Int) <= most := Int.le_trans (by have := Int.mul_le_mul_of_nonneg_left mo1 (show (0 : Int) <= (vol bs : Int) by omega); omega) hvol
  wtm_at "ss"
  refine ⟨r, 2, rfl, P4, yQ (by decide) (by decide), fun c H5 _ _ b5 P5 => ?_⟩
  have X5 := X4.but P4 npr b5
  wtm_at "ss"
  refine gX (fun _ => ?_) (fun _ => ?_)
  . refine ⟨_, rfl, _, rfl, rfl, pb, us, rfl, SqL.of X5.at_, fun p2 hp2 => ?_⟩
    have s6 := Same.new hp2 (.lst us.reverse)
    refine q p2 us.reverse bs.reverse _ (But.none (b4.trans b5) (P5.nn hp2) hp2) (P5.nn hp2) ((b4.trans b5).trans (.of s6)) (P5.mono s6) ⟨jQ, All2.rev (X5.same s6).each⟩ ⟨by rw [List.length_reverse]; omega, by rw [List.length_reverse]; omega, fun b hb => hok b (List.mem_reverse.mp hb), by rw [yO]; exact hv, .inr ?_⟩
    rw [List.map_reverse, hnm, List.length_reverse, hbl]
  . refine ⟨_, rfl, ?_⟩
    exact q pb us bs _ hpbH npr (b4.trans b5) P5 X5 ⟨by omega, by omega, hok, hv, .inl (by rw [hnm, hbl])⟩
end
inductive Say where
  | is_ (a : Nat) (n : Int) | frm (a : Nat) (n : Int) | to_ (a : Nat) (n : Int) | rest (a : Nat) (m r : Int) | eith (a : Nat) (n k : Int) | nev (a : Nat) (n : Int)
  | same (a b : Nat) | below (a b : Nat) | most (a b : Nat) | gap (a b : Nat) (n : Int) | sum (a b : Nat) (n : Int) | adds (a b c : Nat) | times (a b c : Nat)
  deriving DecidableEq
def Say.tup : Say -> List V
  | .is_ a n => [.str "is", .int a, .int n]
  | .frm a n => [.str "from", .int a, .int n]
  | .to_ a n => [.str "to", .int a, .int n]
  | .rest a m r => [.str "rest", .int a, .int m, .int r]
  | .eith a n k => [.str "either", .int a, .int n, .int k]
  | .nev a n => [.str "never", .int a, .int n]
  | .same a b => [.str "same", .int a, .int b]
  | .below a b => [.str "below", .int a, .int b]
  | .most a b => [.str "most", .int a, .int b]
  | .gap a b n => [.str "gap", .int a, .int b, .int n]
  | .sum a b n => [.str "sum", .int a, .int b, .int n]
  | .adds a b c => [.str "adds", .int a, .int b, .int c]
  | .times a b c => [.str "times", .int a, .int b, .int c]
def Say.so1 (x : Int) : Say -> Bool
  | .is_ _ n => x == n
  | .frm _ n => decide (n <= x)
  | .to_ _ n => decide (x <= n)
  | .rest _ m r => (x - r) % m == 0
  | .eith _ n k => x == n || x == k
  | .nev _ n => !(x == n)
  | _ => false
def Say.so2 (x y : Int) : Say -> Bool
  | .same _ _ => x == y
  | .below _ _ => decide (x < y)
  | .most _ _ => decide (x <= y)
  | .gap _ _ n => x - y == n
  | .sum _ _ n => x + y == n
  | _ => false
def Say.fst : Say -> Nat
  | .is_ a _ | .frm a _ | .to_ a _ | .rest a _ _ | .eith a _ _ | .nev a _ | .same a _ | .below a _ | .most a _ | .gap a _ _ | .sum a _ _ | .adds a _ _ | .times a _ _ => a
def Say.so (vs : List Int) (s : Say) : Bool := match s with
  | .adds a b c => vs.getD a 0 + vs.getD b 0 == vs.getD c 0
  | .times a b c => vs.getD a 0 * vs.getD b 0 == vs.getD c 0
  | .same a b | .below a b | .most a b | .gap a b _ | .sum a b _ => s.so2 (vs.getD a 0) (vs.getD b 0)
  | .is_ a _ | .frm a _ | .to_ a _ | .rest a _ _ | .eith a _ _ | .nev a _ => s.so1 (vs.getD a 0)
def Say.one : Say -> Bool
  | .is_ _ _ | .frm _ _ | .to_ _ _ | .rest _ _ _ | .eith _ _ _ | .nev _ _ => true
  | _ => false
def Say.In (many : Nat) : Say -> Prop
  | .is_ a _ | .frm a _ | .to_ a _ | .eith a _ _ | .nev a _ => a < many
  | .rest a m _ => a < many /\ 0 < m
  | .same a b | .below a b | .most a b | .gap a b _ | .sum a b _ => a < many /\ b < many
  | .adds a b c | .times a b c => a < many /\ b < many /\ c < many
theorem iteB {b : Bool} {A B : Prop} (h : b = true) (a : A) : if b = true then A else B := by rw [if_pos h]; exact a
def rng (b : Box) : List Int := (List.range b.size).map fun k => b.lo + (k : Nat)
def ValAt (H : Hp) (v : V) (ns : List Int) : Prop := ∃ p, v = .ref p /\ H p = some (.tup (ns.map V.int))
def SayAt (H : Hp) (v : V) (s : Say) : Prop := ∃ p, v = .ref p /\ H p = some (.tup s.tup)
structure ValsAt (H : Hp) (pl : Addr) (us : List V) (vs : List (List Int)) : Prop where
  at_ : H pl = some (.lst us)
  each : All2 (ValAt H) us vs
structure SaysAt (H : Hp) (pl : Addr) (us : List V) (os : List Say) : Prop where
  at_ : H pl = some (.lst us)
  each : All2 (SayAt H) us os
theorem ValAt.same {H H' : Hp} {v : V} {b : List Int} (h : ValAt H v b) (s : Same H H') : ValAt H' v b := by
  obtain ⟨p, rfl, hp⟩ := h
  exact ⟨p, rfl, s _ _ hp⟩
theorem SayAt.same {H H' : Hp} {v : V} {b : Say} (h : SayAt H v b) (s : Same H H') : SayAt H' v b := by
  obtain ⟨p, rfl, hp⟩ := h
  exact ⟨p, rfl, s _ _ hp⟩
theorem SayAt.but {H H' : Hp} {r : Addr} {v : V} {b : Say} (h : SayAt H v b) (P : PotAt H r) (s : But r H H') : SayAt H' v b := by
  obtain ⟨p, rfl, hp⟩ := h
  exact ⟨p, rfl, s _ _ (P.ne_tup hp) hp⟩
theorem SayAt.put {H : Hp} {l : Addr} {xs ys : List V} {v : V} {b : Say} (h : SayAt H v b) (hl : H l = some (.lst xs)) : SayAt (upd H l (.lst ys)) v b := by
  obtain ⟨p, rfl, hp⟩ := h
  exact ⟨p, rfl, by rw [sQ (oK hp hl (fun z => nomatch z))]; exact hp⟩
theorem ValAt.put {H : Hp} {l : Addr} {xs ys : List V} {v : V} {b : List Int} (h : ValAt H v b) (hl : H l = some (.lst xs)) : ValAt (upd H l (.lst ys)) v b := by
  obtain ⟨p, rfl, hp⟩ := h
  exact ⟨p, rfl, by rw [sQ (oK hp hl (fun z => nomatch z))]; exact hp⟩
theorem BoxAt.put {H : Hp} {l : Addr} {xs ys : List V} {v : V} {b : Box} (h : BoxAt H v b) (hl : H l = some (.lst xs)) : BoxAt (upd H l (.lst ys)) v b := by
  obtain ⟨p, rfl, hp⟩ := h
  exact ⟨p, rfl, by rw [sQ (oK hp hl (fun z => nomatch z))]; exact hp⟩
theorem ValsAt.same {H H' : Hp} {pl : Addr} {us : List V} {vs : List (List Int)} (h : ValsAt H pl us vs) (s : Same H H') : ValsAt H' pl us vs := ⟨s _ _ h.at_, h.each.mono fun _ _ z => z.same s⟩
theorem SaysAt.same {H H' : Hp} {pl : Addr} {us : List V} {vs : List Say} (h : SaysAt H pl us vs) (s : Same H H') : SaysAt H' pl us vs := ⟨s _ _ h.at_, h.each.mono fun _ _ z => z.same s⟩
theorem SaysAt.but {H H' : Hp} {r pl : Addr} {us : List V} {vs : List Say} (h : SaysAt H pl us vs) (P : PotAt H r) (n : pl ≠ r) (s : But r H H') : SaysAt H' pl us vs := ⟨s _ _ n h.at_, h.each.mono fun _ _ z => z.but P s⟩
theorem gU {α β : Type} {R : α -> β -> Prop} {xs us : List α} {ys vs : List β} (h : All2 R xs ys) (g : All2 R us vs) : All2 R (xs ++ us) (ys ++ vs) := by
  have hl := h.1
  have gl := g.1
  refine ⟨by simp [hl, gl], fun i a b ha hb => ?_⟩
  by_cases hi : i < xs.length
  . rw [List.getElem?_append_left hi] at ha
    rw [List.getElem?_append_left (by omega)] at hb
    exact h.2 i a b ha hb
  . rw [List.getElem?_append_right (by omega)] at ha
    rw [List.getElem?_append_right (by omega), <- hl] at hb
    exact g.2 _ a b ha hb
structure TsAt {α : Type} (tp : α -> List V) (H : Hp) (D : Addr) (us : List V) (xs : List α) : Prop where
  at_ : H D = some (.lst us)
  each : All2 (fun v x => ∃ q, v = .ref q /\ H q = some (.tup (tp x))) us xs
section
variable {α : Type} {tp : α -> List V} {H H' : Hp} {D E : Addr} {us ys : List V} {xs zs : List α}
theorem TsAt.nil : TsAt tp (upd H D (.lst [])) D [] [] := ⟨jQ, All2.nil⟩
theorem TsAt.same (h : TsAt tp H D us xs) (s : Same H H') : TsAt tp H' D us xs := ⟨s _ _ h.at_, h.each.mono fun _ _ ⟨q, e, hq⟩ => ⟨q, e, s _ _ hq⟩⟩
theorem TsAt.each_put {o : List V} (h : TsAt tp H E ys zs) (hD : H D = some (.lst us)) : All2 (fun v x => ∃ q, v = .ref q /\ (upd H D (.lst o)) q = some (.tup (tp x))) ys zs :=
  h.each.mono fun _ _ ⟨q, e, hq⟩ => ⟨q, e, by rw [sQ (oK hq hD (fun z => nomatch z))]; exact hq⟩
theorem TsAt.push {t : Addr} {x : α} (h : TsAt tp H D us xs) (ht : H t = none) : TsAt tp (upd (upd H t (.tup (tp x))) D (.lst (us ++ [.ref t]))) D (us ++ [.ref t]) (xs ++ [x]) := by
  have s := Same.new ht (.tup (tp x))
  have h1 := h.same s
  refine ⟨jQ, (h1.each_put h1.at_).snoc ⟨t, rfl, ?_⟩⟩
  rw [sQ (qQ h.at_ ht).symm]
  exact jQ
theorem TsAt.ext (h : TsAt tp H D us xs) (g : TsAt tp H E ys zs) : TsAt tp (upd H D (.lst (us ++ ys))) D (us ++ ys) (xs ++ zs) := ⟨jQ, gU (h.each_put h.at_) (g.each_put h.at_)⟩
theorem TsAt.says {os : List Say} (h : TsAt Say.tup H D us os) : SaysAt H D us os := ⟨h.at_, h.each⟩
theorem SaysAt.ts {os : List Say} (h : SaysAt H D us os) : TsAt Say.tup H D us os := ⟨h.at_, h.each⟩
end
def ir (lo : Int) (n : Nat) : List Int := (List.range n).map fun i => lo + ((i : Nat) : Int)
theorem yW (lo : Int) (n : Nat) : (ir lo n).length = n := by unfold ir; rw [List.length_map, List.length_range]
theorem iV (lo : Int) (n : Nat) : ir lo (n + 1) = ir lo n ++ [lo + ((n : Nat) : Int)] := by
  unfold ir
  rw [List.range_succ, List.map_append]
  rfl
theorem uZ {lo : Int} {n : Nat} {k : Int} : k ∈ ir lo n ↔ lo <= k /\ k < lo + n := by
  unfold ir
  rw [List.mem_map]
  constructor
  . rintro ⟨i, hi, rfl⟩
    have := List.mem_range.mp hi
    omega
  . rintro ⟨h1, h2⟩
    exact ⟨(k - lo).toNat, List.mem_range.mpr (by omega), by omega⟩
theorem fK {σ : St} {H : Hp} {P1 P2 : Hp -> Prop} (h : P1 H) : tTrue σ H (fun b H4 => if b = true then P1 H4 else P2 H4) := by
  show if true = true then P1 H else P2 H
  exact iteT h
theorem zW {α : Type} (tp : α -> List V) {lo : Int} {n : Nat} {D : Addr} {H1 : Hp} {tt : TT} {te : TE} {rest : St} {Q : VK} (g : Int -> Option α) (hD : H1 D = none) (hn : n <= 1000)
    (hs : ∀ (k : Int) (H : Hp) (K1 : VK) (K2 : Hp -> Prop), lo <= k -> k < lo + n -> Same H1 H -> (match g k with | some x => ∀ p, H p = none -> K1 (.ref p) (upd H p (.tup (tp x))) | none => K2 H) -> tt (some (.int k) :: rest) H fun b H4 => if b = true then te (some (.int k) :: rest) H4 K1 else K2 H4)
    (hd : ∀ (ys : List V) (H' : Hp), TsAt tp H' D ys ((ir lo n).filterMap g) -> Same H1 H' -> Q (.ref D) H') : LcW (Itr lo n) D (gName 0) tt te Q (none :: rest) (upd H1 D (.lst [])) := by
  refine yK (fun i ys σ H' => (∃ c0 : Option V, σ = c0 :: rest) /\ TsAt tp H' D ys ((ir lo i).filterMap g) /\ Same H1 H' /\ ys.length <= i) ⟨⟨none, rfl⟩, TsAt.nil, Same.new hD _, Nat.le_refl _⟩ ?_ ?_
  . rintro i ys σ H' hi ⟨⟨c0, rfl⟩, T, e', hl⟩
    show tt (some (.int (lo + (i : Int))) :: rest) H' _
    refine hs (lo + (i : Int)) H' _ (fun H4 => (∃ c0 : Option V, (some (V.int (lo + (i : Int))) :: rest) = c0 :: rest) /\ TsAt tp H4 D ys ((ir lo (i + 1)).filterMap g) /\ Same H1 H4 /\ ys.length <= i + 1) (by omega) (by omega) e' ?_
    have es : (ir lo (i + 1)).filterMap g = (ir lo i).filterMap g ++ (match g (lo + (i : Int)) with | some x => [x] | none => []) := by
      rw [iV, List.filterMap_append]
      congr 1
      cases hg' : g (lo + (i : Int)) <;> simp [List.filterMap_cons, hg']
    cases hg : g (lo + (i : Int)) with
    | some x =>
      rw [hg] at es
      intro p hp
      have s2 := Same.new hp (.tup (tp x))
      refine ⟨s2 _ _ T.at_, small1000 (by omega), ⟨_, rfl⟩, ?_, fun c u z => ?_, by rw [List.length_append, List.length_singleton]; omega⟩
      . rw [es]
        exact T.push hp
      . rw [sQ (qQ z hD)]
        exact s2 _ _ (e' _ _ z)
    | none =>
      rw [hg, List.append_nil] at es
      exact ⟨⟨_, rfl⟩, by rw [es]; exact T, e', by omega⟩
  . rintro ys σ H' ⟨_, T, e', _⟩
    exact hd ys H' T e'
def fl {α : Type} (F : Nat -> List α) (n : Nat) : List α := (List.range n).flatMap F
theorem qW {α : Type} (F : Nat -> List α) (n : Nat) : fl F (n + 1) = fl F n ++ F n := by
  unfold fl
  rw [List.range_succ, List.flatMap_append]
  simp
def wnumF (mk : Nat -> Int -> Say) (ab be : Int) (bs : List Box) (i : Nat) : List Say := (bs[i]?).elim [] fun b => (ir (b.lo + ab) (b.hi - be + 1 - (b.lo + ab)).toNat).map (mk i)
def wnum (mk : Nat -> Int -> Say) (ab be : Int) (bs : List Box) : List Say := fl (wnumF mk ab be bs) bs.length
def restF (i : Nat) : List Say := (ir 2 5).flatMap fun m => (ir 0 m.toNat).map fun r => Say.rest i m r
def restL (bs : List Box) : List Say := fl restF bs.length
def eithF (bs : List Box) (i : Nat) : List Say := (bs[i]?).elim [] fun b => (ir b.lo (b.hi - b.lo).toNat).flatMap fun n => (ir (n + 1) (b.hi + 1 - (n + 1)).toNat).map fun k => Say.eith i n k
def eithL (bs : List Box) : List Say := fl (eithF bs) bs.length
def ptup (x : Nat × Nat) : List V := [.int (x.1 : Nat), .int (x.2 : Nat)]
def riseF (n a : Nat) : List (Nat × Nat) := (ir ((a : Int) + 1) ((n : Int) - ((a : Int) + 1)).toNat).map fun b => (a, b.toNat)
def rise (n : Nat) : List (Nat × Nat) := fl (riseF n) n
def unlF (n a : Nat) : List (Nat × Nat) := (ir 0 n).filterMap fun b => if b = (a : Int) then none else some (a, b.toNat)
def unl (n : Nat) : List (Nat × Nat) := fl (unlF n) n
def spWithNumber : Sp := fun vs H Q _ => ∃ (f : Str) (mk : Nat -> Int -> Say) (pb : Addr) (ab be : Int) (us : List V) (bs : List Box), vs = [.str f, .ref pb, .int ab, .int be] /\ (∀ i n, (mk i n).tup = [.str f, .int (i : Nat), .int n]) /\ BoxesAt H pb us bs /\ (∀ b ∈ bs, b.Ok) /\ bs.length <= 4 /\ 0 <= ab /\ ab <= 1 /\ 0 <= be /\ be <= 1 /\
  ∀ (p : Addr) (us' : List V) (H' : Hp), H p = none -> Same H H' -> SaysAt H' p us' (wnum mk ab be bs) -> us'.length <= 80 -> Q (.ref p) H'
def spBx (L : List Box -> List Say) (n : Nat) : Sp := fun vs H Q _ => ∃ (pb : Addr) (us : List V) (bs : List Box), vs = [.ref pb] /\ BoxesAt H pb us bs /\ (∀ b ∈ bs, b.Ok) /\ bs.length <= 4 /\
  ∀ (p : Addr) (us' : List V) (H' : Hp), H p = none -> Same H H' -> SaysAt H' p us' (L bs) -> us'.length <= n -> Q (.ref p) H'
def spPrs (L : Nat -> List (Nat × Nat)) : Sp := fun vs H Q _ => ∃ (pb : Addr) (us : List V), vs = [.ref pb] /\ H pb = some (.lst us) /\ us.length <= 4 /\
  ∀ (p : Addr) (us' : List V) (H' : Hp), H p = none -> Same H H' -> TsAt ptup H' p us' (L us.length) -> us'.length <= 16 -> Q (.ref p) H'
section
variable {P : Program} {w : World} {K : PySem.W.Frag} {mg : Str -> Option Value} {base : Heap}
theorem scWithNumber : FnScope ["form", "boxes", "above", "below", "told", "place", "box", "n"] ["form", "boxes", "above", "below"] (defScope sPWithNumber) := ⟨rfl, rfl, rfl, by decide +kernel, rfl, by decide +kernel, by decide +kernel⟩
theorem eY (h : Has K mg "with_number" sPWithNumber ["form", "boxes", "above", "below"]) (B : Blt mg) : Cal P w K mg base 1 "with_number" ["form", "boxes", "above", "below"] spWithNumber := by
  refine h.cal scWithNumber (fun vs H Q E h => ?_) (fun f cdv A outer s H vs Q E hr h => ?_)
  . obtain ⟨f, mk, pb, ab, be, us, bs, rfl, _⟩ := h
    rfl
  obtain ⟨fm, mk, pb, ab, be, us, bs, rfl, hmk, X, ok, l4, a0, a1, e0, e1, q⟩ := h
  refine ⟨_, (dQ (lQ (i := 4) scWithNumber.nd rfl (Or.inl rfl) (kZ fQ))
    (dQ (aX PassesOwn.never rfl (uO rfl B.enumerate (aQ (pv 1) fQ)) (iW rfl (hZ (rQ (i := 5) scWithNumber.nd rfl (Or.inl rfl)) (hZ (rQ (i := 6) scWithNumber.nd rfl (Or.inl rfl)) lJ))) (mQ (aX PassesOwn.never rfl (cJ rfl B.range (aQ (pQ eZ (bZ xX (pv 6) iQ (fun _ _ => rfl)) (pv 2)) (aQ (pQ eZ (pQ iX (bZ xX (pv 6) iQ (fun _ _ => rfl)) (pv 3)) iQ) fQ))) (rQ (i := 7) scWithNumber.nd rfl (Or.inl rfl)) (mQ (xZ (yX PySem.F.plainAttrs_list PySem.F.slot_list_append PySem.F.type_list_append kX (pv 4) (aQ (bX (aQ (pv 0) (aQ (pv 5) (aQ (pv 7) fQ)))) fQ)))))))
    (mQ (tQ (pv 4))))), ?_⟩
  refine ⟨(by show 0 <= sizeLine; decide), fun pt hpt => ?_⟩
  have ul := X.each.1
  refine ⟨_, rfl, pb, rfl, ⟨_, Same.new hpt _ _ _ X.at_⟩, zK (a := pb) (xs := us) (fun i σ H' => ∃ (ts : List V) (c5 c6 c7 : Option V), σ = [some (.str fm), some (.ref pb), some (.int ab), some (.int be), some (.ref pt), c5, c6, c7] /\ TsAt Say.tup H' pt ts (fl (wnumF mk ab be bs) i) /\ ts.length <= 20 * i /\ Same H H')
    ⟨[], none, none, none, rfl, TsAt.nil, Nat.le_refl _, Same.new hpt _⟩ (fun i σ H' _ ⟨_, _, _, _, _, _, _, e⟩ => e _ _ X.at_) ?_ ?_⟩
  . rintro i x σ H' T hi ⟨ts, c5, c6, c7, rfl, T1, tl, e'⟩ hT
    obtain ⟨b, hb, p, rfl, hp⟩ := X.each.at hi
    have bok := ok b (List.mem_of_getElem? hb)
    have k1 := bok.fl
    have k2 := bok.fh
    have k3 := bok.lo
    have k4 := bok.hi
    have k5 := bok.w
    have il : i < 4 := by have := (List.getElem?_eq_some_iff.mp hb).1; omega
    have sT := Same.new hT (.tup [.int (i : Nat), .ref p])
    have T2 := T1.same sT
    have eT := e'.trans sT
    refine ⟨T, _, rfl, SqT.of jQ, rfl, _, _, rfl, _, _, rfl, rfl, ?_⟩
    generalize upd H' T (.tup [.int (i : Nat), .ref p]) = H2 at *
    refine ⟨_, rfl, p, _, _, _, rfl, rfl, SqT.of (eT _ _ hp), rfl, _, rfl, _, _, rfl, rfl, _, rfl, p, _, _, _, rfl, rfl, SqT.of (eT _ _ hp), rfl, _, rfl, _, _, rfl, rfl, _, _, rfl, rfl, _, _, rfl, ⟨by omega, by omega, by omega, by omega⟩, ?_⟩
    refine fX (lo := b.lo + ab) (n := (b.hi - be + 1 - (b.lo + ab)).toNat) (fun j σ H3 => ∃ (ts : List V) (c7 : Option V), σ = [some (.str fm), some (.ref pb), some (.int ab), some (.int be), some (.ref pt), some (.int (i : Nat)), some (.ref p), c7] /\ TsAt Say.tup H3 pt ts (fl (wnumF mk ab be bs) i ++ (ir (b.lo + ab) j).map (mk i)) /\ ts.length <= 20 * i + j /\ Same H H3)
      ⟨ts, c7, rfl, by rw [show (ir (b.lo + ab) 0).map (mk i) = [] from rfl, List.append_nil]; exact T2, tl, eT⟩ ?_ ?_
    . rintro j σ H3 hj ⟨ts, c7, rfl, T3, tl3, e3⟩
      refine ⟨_, rfl, .inl ⟨rfl, _, SqL.of T3.at_⟩, _, rfl, _, rfl, _, rfl, (by show 3 <= sizeLine; decide), fun t ht => ?_⟩
      have s4 := Same.new ht (.tup [.str fm, .int (i : Nat), .int (b.lo + ab + (j : Int))])
      refine ⟨pt, _, _, rfl, rfl, s4 _ _ T3.at_, small1000 (by omega), ?_⟩
      refine ⟨ts ++ [.ref t], _, rfl, ?_, by rw [List.length_append, List.length_singleton]; omega, fun c u z => ?_⟩
      . rw [iV, List.map_append, <- List.append_assoc]
        have := T3.push (x := mk i (b.lo + ab + (j : Int))) ht
        rw [hmk] at this
        exact this
      . rw [sQ (qQ z hpt)]
        exact s4 _ _ (e3 _ _ z)
    . rintro σ H3 ⟨ts, c7, rfl, T3, tl3, e3⟩
      refine ⟨ts, _, _, _, rfl, ?_, by omega, e3⟩
      rw [qW]
      have : wnumF mk ab be bs i = (ir (b.lo + ab) (b.hi - be + 1 - (b.lo + ab)).toNat).map (mk i) := by
        unfold wnumF
        rw [hb]
        rfl
      rw [this]
      exact T3
  . rintro σ H' ⟨ts, c5, c6, c7, rfl, T1, tl, e'⟩
    rw [ul] at T1 tl
    exact ⟨_, rfl, q pt ts H' hpt e' T1.says (by omega)⟩
theorem scRests : FnScope ["boxes", "told", "place", "m"] ["boxes"] (defScope sPRests) := ⟨rfl, rfl, rfl, by decide +kernel, rfl, by decide +kernel, by decide +kernel⟩
theorem ok_rests (h : Has K mg "rests" sPRests ["boxes"]) (B : Blt mg) (gl : Glb K mg) : Cal P w K mg base 1 "rests" ["boxes"] (spBx restL 120) := by
  refine h.cal scRests (fun vs H Q E h => ?_) (fun f cdv A outer s H vs Q E hr h => ?_)
  . obtain ⟨pb, us, bs, rfl, _⟩ := h
    rfl
  obtain ⟨pb, us, bs, rfl, X, ok, l4, q⟩ := h
  obtain ⟨tk1, hm1⟩ := gl.LEAST_DIVISOR
  obtain ⟨tk2, hm2⟩ := gl.MOST_DIVISOR
  refine ⟨_, (dQ (lQ (i := 1) scRests.nd rfl (Or.inl rfl) (kZ fQ))
    (dQ (aX PassesOwn.never rfl (yZ rfl B.range (aQ (cZ zQ rfl B.len eX (aQ (pv 0) fQ)) fQ)) (rQ (i := 2) scRests.nd rfl (Or.inr rfl)) (mQ (aX PassesOwn.never rfl (cJ rfl B.range (aQ (tX (v := .int 2) rfl hm1 ⟨_, rfl⟩) (aQ (pQ eZ (tX (v := .int 6) rfl hm2 ⟨_, rfl⟩) iQ) fQ))) (rQ (i := 3) scRests.nd rfl (Or.inr rfl)) (mQ (xZ (yX PySem.F.plainAttrs_list PySem.F.slot_list_extend PySem.F.type_list_extend dJ (pv 1) (aQ (hW (defScope sPRests) ["boxes", "told", "place", "m"] (N := ["r", "place", "m"]) (ix := [none, some 2, some 3]) rfl ⟨rfl, by decide +kernel, by decide +kernel, by decide +kernel, rfl, by decide +kernel⟩ (yZ rfl B.range (aQ (pv 3) fQ)) (fun _ _ _ _ => rQ (i := 0) (show (["r", "place", "m"] : List Str).Nodup by decide +kernel) rfl (Or.inl rfl)) (fun _ _ _ _ => eJ) (fun _ _ _ _ => (bX (aQ oQ (aQ (pv 1) (aQ (pv 2) (aQ (pv 0) fQ))))))) fQ)))))))
    (mQ (tQ (pv 1))))), ?_⟩
  refine ⟨(by show 0 <= sizeLine; decide), fun pt hpt => ?_⟩
  have ul := X.each.1
  refine ⟨_, rfl, pb, _, rfl, .inl (SqL.of (Same.new hpt _ _ _ X.at_)), _, rfl, by omega, by omega, ?_⟩
  refine fX (lo := 0) (n := ((us.length : Nat) : Int).toNat) (fun i σ H' => ∃ (ts : List V) (c2 c3 : Option V), σ = [some (.ref pb), some (.ref pt), c2, c3] /\ TsAt Say.tup H' pt ts (fl restF i) /\ ts.length <= 30 * i /\ Same H H')
    ⟨[], none, none, rfl, TsAt.nil, Nat.le_refl _, Same.new hpt _⟩ ?_ ?_
  . rintro i σ H' hi ⟨ts, c2, c3, rfl, T1, tl, e'⟩
    have e0 : (0 + (i : Int)) = ((i : Nat) : Int) := by omega
    rw [e0]
    have il : i < 4 := by omega
    refine ⟨_, _, rfl, rfl, _, _, rfl, ⟨by decide, by decide, by decide, by decide⟩, ?_⟩
    refine fX (lo := 2) (n := ((6 : Int) + 1 - 2).toNat) (fun j σ H3 => ∃ (ts : List V) (c3 : Option V), σ = [some (.ref pb), some (.ref pt), some (.int (i : Nat)), c3] /\ TsAt Say.tup H3 pt ts (fl restF i ++ (ir 2 j).flatMap fun m => (ir 0 m.toNat).map fun r => Say.rest i m r) /\ ts.length <= 30 * i + 6 * j /\ Same H H3)
      ⟨ts, c3, rfl, by rw [show ((ir 2 0).flatMap fun m => (ir 0 m.toNat).map fun r => Say.rest i m r) = [] from rfl, List.append_nil]; exact T1, tl, e'⟩ ?_ ?_
    . rintro j σ H3 hj ⟨ts, c3, rfl, T3, tl3, e3⟩
      have hj5 : j < 5 := hj
      refine ⟨_, rfl, .inl ⟨rfl, _, SqL.of T3.at_⟩, _, rfl, _, rfl, by omega, by omega, fun D hD => ?_⟩
      refine zW Say.tup (fun r => some (Say.rest i (2 + (j : Int)) r)) hD (by omega) (fun k H4 K1 K2 _ _ _ z => ?_) fun ys H4 T4 e4 => ?_
      . exact fK ⟨_, rfl, _, rfl, _, rfl, (by show 4 <= sizeLine; decide), z⟩
      rw [show (fun r => some (Say.rest i (2 + (j : Int)) r)) = some ∘ (fun r => Say.rest i (2 + (j : Int)) r) from rfl, List.filterMap_eq_map] at T4
      have T5 := T3.same e4
      have yl : ys.length <= 6 := by
        rw [T4.each.1, List.length_map, yW]
        omega
      refine ⟨pt, D, ts, ys, rfl, rfl, T5.at_, T4.at_, small (by omega), ?_⟩
      refine ⟨ts ++ ys, _, rfl, ?_, by rw [List.length_append]; omega, fun c u z => ?_⟩
      . rw [iV, List.flatMap_append, <- List.append_assoc]
        simpa using T5.ext T4
      . rw [sQ (qQ z hpt)]
        exact e4 _ _ (e3 _ _ z)
    . rintro σ H3 ⟨ts, c3, rfl, T3, tl3, e3⟩
      refine ⟨ts, _, _, rfl, ?_, ?_, e3⟩
      . rw [qW]
        exact T3
      . have : ((6 : Int) + 1 - 2).toNat = 5 := rfl
        rw [this] at tl3
        omega
  . rintro σ H' ⟨ts, c2, c3, rfl, T1, tl, e'⟩
    have e : ((us.length : Nat) : Int).toNat = bs.length := by omega
    rw [e] at T1 tl
    exact ⟨_, rfl, q pt ts H' hpt e' T1.says (by omega)⟩
theorem scEithers : FnScope ["boxes", "told", "place", "box", "n"] ["boxes"] (defScope sPEithers) := ⟨rfl, rfl, rfl, by decide +kernel, rfl, by decide +kernel, by decide +kernel⟩
theorem aO (h : Has K mg "eithers" sPEithers ["boxes"]) (B : Blt mg) : Cal P w K mg base 1 "eithers" ["boxes"] (spBx eithL 1600) := by
  refine h.cal scEithers (fun vs H Q E h => ?_) (fun f cdv A outer s H vs Q E hr h => ?_)
  . obtain ⟨pb, us, bs, rfl, _⟩ := h
    rfl
  obtain ⟨pb, us, bs, rfl, X, ok, l4, q⟩ := h
  refine ⟨_, (dQ (lQ (i := 1) scEithers.nd rfl (Or.inl rfl) (kZ fQ))
    (dQ (aX PassesOwn.never rfl (uO rfl B.enumerate (aQ (pv 0) fQ)) (iW rfl (hZ (rQ (i := 2) scEithers.nd rfl (Or.inr rfl)) (hZ (rQ (i := 3) scEithers.nd rfl (Or.inl rfl)) lJ))) (mQ (aX PassesOwn.never rfl (cJ rfl B.range (aQ (bZ xX (pv 3) iQ (fun _ _ => rfl)) (aQ (bZ xX (pv 3) iQ (fun _ _ => rfl)) fQ))) (rQ (i := 4) scEithers.nd rfl (Or.inr rfl)) (mQ (xZ (yX PySem.F.plainAttrs_list PySem.F.slot_list_extend PySem.F.type_list_extend dJ (pv 1) (aQ (hW (defScope sPEithers) ["boxes", "told", "place", "box", "n"] (N := ["k", "place", "n"]) (ix := [none, some 2, some 4]) rfl ⟨rfl, by decide +kernel, by decide +kernel, by decide +kernel, rfl, by decide +kernel⟩ (cJ rfl B.range (aQ (pQ eZ (pv 4) iQ) (aQ (pQ eZ (bZ xX (pv 3) iQ (fun _ _ => rfl)) iQ) fQ))) (fun _ _ _ _ => rQ (i := 0) (show (["k", "place", "n"] : List Str).Nodup by decide +kernel) rfl (Or.inl rfl)) (fun _ _ _ _ => eJ) (fun _ _ _ _ => (bX (aQ oQ (aQ (pv 1) (aQ (pv 2) (aQ (pv 0) fQ))))))) fQ)))))))
    (mQ (tQ (pv 1))))), ?_⟩
  refine ⟨(by show 0 <= sizeLine; decide), fun pt hpt => ?_⟩
  have ul := X.each.1
  refine ⟨_, rfl, pb, rfl, ⟨_, Same.new hpt _ _ _ X.at_⟩, zK (a := pb) (xs := us) (fun i σ H' => ∃ (ts : List V) (c2 c3 c4 : Option V), σ = [some (.ref pb), some (.ref pt), c2, c3, c4] /\ TsAt Say.tup H' pt ts (fl (eithF bs) i) /\ ts.length <= 400 * i /\ Same H H')
    ⟨[], none, none, none, rfl, TsAt.nil, Nat.le_refl _, Same.new hpt _⟩ (fun i σ H' _ ⟨_, _, _, _, _, _, _, e⟩ => e _ _ X.at_) ?_ ?_⟩
  . rintro i x σ H' T hi ⟨ts, c2, c3, c4, rfl, T1, tl, e'⟩ hT
    obtain ⟨b, hb, p, rfl, hp⟩ := X.each.at hi
    have bok := ok b (List.mem_of_getElem? hb)
    have k1 := bok.fl
    have k2 := bok.fh
    have k3 := bok.lo
    have k4 := bok.hi
    have k5 := bok.w
    have il : i < 4 := by have := (List.getElem?_eq_some_iff.mp hb).1; omega
    have sT := Same.new hT (.tup [.int (i : Nat), .ref p])
    have T2 := T1.same sT
    have eT := e'.trans sT
    refine ⟨T, _, rfl, SqT.of jQ, rfl, _, _, rfl, _, _, rfl, rfl, ?_⟩
    generalize upd H' T (.tup [.int (i : Nat), .ref p]) = H2 at *
    refine ⟨_, rfl, p, _, _, _, rfl, rfl, SqT.of (eT _ _ hp), rfl, _, rfl, p, _, _, _, rfl, rfl, SqT.of (eT _ _ hp), rfl, _, _, rfl, ⟨by omega, by omega, by omega, by omega⟩, ?_⟩
    refine fX (lo := b.lo) (n := (b.hi - b.lo).toNat) (fun j σ H3 => ∃ (ts : List V) (c4 : Option V), σ = [some (.ref pb), some (.ref pt), some (.int (i : Nat)), some (.ref p), c4] /\ TsAt Say.tup H3 pt ts (fl (eithF bs) i ++ (ir b.lo j).flatMap fun n => (ir (n + 1) (b.hi + 1 - (n + 1)).toNat).map fun k => Say.eith i n k) /\ ts.length <= 400 * i + 20 * j /\ Same H H3)
      ⟨ts, c4, rfl, by rw [show ((ir b.lo 0).flatMap fun n => (ir (n + 1) (b.hi + 1 - (n + 1)).toNat).map fun k => Say.eith i n k) = [] from rfl, List.append_nil]; exact T2, tl, eT⟩ ?_ ?_
    . rintro j σ H3 hj ⟨ts, c4, rfl, T3, tl3, e3⟩
      refine ⟨_, rfl, .inl ⟨rfl, _, SqL.of T3.at_⟩, _, rfl, _, _, rfl, rfl, _, rfl, p, _, _, _, rfl, rfl, SqT.of (e3 _ _ hp), rfl, _, _, rfl, rfl, _, _, rfl, ⟨by omega, by omega, by omega, by omega⟩, fun D hD => ?_⟩
      refine zW Say.tup (lo := b.lo + (j : Int) + 1) (n := (b.hi + 1 - (b.lo + (j : Int) + 1)).toNat) (fun k => some (Say.eith i (b.lo + (j : Int)) k)) hD (by omega) (fun k H4 K1 K2 _ _ _ z => ?_) fun ys H4 T4 e4 => ?_
      . exact fK ⟨_, rfl, _, rfl, _, rfl, (by show 4 <= sizeLine; decide), z⟩
      rw [show (fun k => some (Say.eith i (b.lo + (j : Int)) k)) = some ∘ (fun k => Say.eith i (b.lo + (j : Int)) k) from rfl, List.filterMap_eq_map] at T4
      have T5 := T3.same e4
      have yl : ys.length <= 20 := by
        rw [T4.each.1, List.length_map, yW]
        omega
      refine ⟨pt, D, ts, ys, rfl, rfl, T5.at_, T4.at_, sz' (by omega), ?_⟩
      refine ⟨ts ++ ys, _, rfl, ?_, by rw [List.length_append]; omega, fun c u z => ?_⟩
      . rw [iV, List.flatMap_append, <- List.append_assoc]
        simpa using T5.ext T4
      . rw [sQ (qQ z hpt)]
        exact e4 _ _ (e3 _ _ z)
    . rintro σ H3 ⟨ts, c4, rfl, T3, tl3, e3⟩
      refine ⟨ts, _, _, _, rfl, ?_, by omega, e3⟩
      rw [qW]
      have : eithF bs i = (ir b.lo (b.hi - b.lo).toNat).flatMap fun n => (ir (n + 1) (b.hi + 1 - (n + 1)).toNat).map fun k => Say.eith i n k := by
        unfold eithF
        rw [hb]
        rfl
      rw [this]
      exact T3
  . rintro σ H' ⟨ts, c2, c3, c4, rfl, T1, tl, e'⟩
    rw [ul] at T1 tl
    exact ⟨_, rfl, q pt ts H' hpt e' T1.says (by omega)⟩
theorem scRising : FnScope ["boxes", "pairs", "a"] ["boxes"] (defScope sPRisingPairs) := ⟨rfl, rfl, rfl, by decide +kernel, rfl, by decide +kernel, by decide +kernel⟩
theorem ok_rising (h : Has K mg "rising_pairs" sPRisingPairs ["boxes"]) (B : Blt mg) : Cal P w K mg base 1 "rising_pairs" ["boxes"] (spPrs rise) := by
  refine h.cal scRising (fun vs H Q E h => ?_) (fun f cdv A outer s H vs Q E hr h => ?_)
  . obtain ⟨pb, us, rfl, _⟩ := h
    rfl
  obtain ⟨pb, us, rfl, X, l4, q⟩ := h
  refine ⟨_, (dQ (lQ (i := 1) scRising.nd rfl (Or.inl rfl) (kZ fQ))
    (dQ (aX PassesOwn.never rfl (yZ rfl B.range (aQ (cZ zQ rfl B.len eX (aQ (pv 0) fQ)) fQ)) (rQ (i := 2) scRising.nd rfl (Or.inr rfl)) (mQ (xZ (yX PySem.F.plainAttrs_list PySem.F.slot_list_extend PySem.F.type_list_extend dJ (pv 1) (aQ (hW (defScope sPRisingPairs) ["boxes", "pairs", "a"] (N := ["b", "a"]) (ix := [none, some 2]) rfl ⟨rfl, by decide +kernel, by decide +kernel, by decide +kernel, rfl, by decide +kernel⟩ (cJ rfl B.range (aQ (pQ eZ (pv 2) iQ) (aQ (cZ zQ rfl B.len eX (aQ (pv 0) fQ)) fQ))) (fun _ _ _ _ => rQ (i := 0) (show (["b", "a"] : List Str).Nodup by decide +kernel) rfl (Or.inl rfl)) (fun _ _ _ _ => eJ) (fun _ _ _ _ => (bX (aQ (pv 1) (aQ (pv 0) fQ))))) fQ)))))
    (mQ (tQ (pv 1))))), ?_⟩
  refine ⟨(by show 0 <= sizeLine; decide), fun pt hpt => ?_⟩
  refine ⟨_, rfl, pb, _, rfl, .inl (SqL.of (Same.new hpt _ _ _ X)), _, rfl, by omega, by omega, ?_⟩
  refine fX (lo := 0) (n := ((us.length : Nat) : Int).toNat) (fun i σ H' => ∃ (ts : List V) (c2 : Option V), σ = [some (.ref pb), some (.ref pt), c2] /\ TsAt ptup H' pt ts (fl (riseF us.length) i) /\ ts.length <= 4 * i /\ Same H H')
    ⟨[], none, rfl, TsAt.nil, Nat.le_refl _, Same.new hpt _⟩ ?_ ?_
  . rintro i σ H' hi ⟨ts, c2, rfl, T1, tl, e'⟩
    have e0 : (0 + (i : Int)) = ((i : Nat) : Int) := by omega
    rw [e0]
    refine ⟨_, rfl, .inl ⟨rfl, _, SqL.of T1.at_⟩, _, rfl, _, _, rfl, rfl, _, rfl, pb, _, rfl, .inl (SqL.of (e' _ _ X)), _, _, rfl, ⟨by omega, by omega, by omega, by omega⟩, fun D hD => ?_⟩
    refine zW ptup (lo := (i : Int) + 1) (n := ((us.length : Int) - ((i : Int) + 1)).toNat) (fun b => some (i, b.toNat)) hD (by omega) (fun k H4 K1 K2 k0 k1 _ z => ?_) fun ys H4 T4 e4 => ?_
    . have z' : ∀ p, H4 p = none -> K1 (.ref p) (upd H4 p (.tup (ptup (i, k.toNat)))) := z
      have ek : ptup (i, k.toNat) = [.int (i : Nat), .int k] := by
        unfold ptup
        rw [show (((i, k.toNat).2 : Nat) : Int) = k from by show ((k.toNat : Nat) : Int) = k; omega]
      rw [ek] at z'
      exact fK ⟨_, rfl, _, rfl, (by show 2 <= sizeLine; decide), z'⟩
    rw [show (fun b : Int => some (i, b.toNat)) = some ∘ (fun b : Int => (i, b.toNat)) from rfl, List.filterMap_eq_map] at T4
    have T5 := T1.same e4
    have yl : ys.length <= 4 := by
      rw [T4.each.1, List.length_map, yW]
      omega
    refine ⟨pt, D, ts, ys, rfl, rfl, T5.at_, T4.at_, small (by omega), ?_⟩
    refine ⟨ts ++ ys, _, rfl, ?_, by rw [List.length_append]; omega, fun c u z => ?_⟩
    . rw [qW]
      exact T5.ext T4
    . rw [sQ (qQ z hpt)]
      exact e4 _ _ (e' _ _ z)
  . rintro σ H' ⟨ts, c2, rfl, T1, tl, e'⟩
    rw [Int.toNat_natCast] at T1 tl
    exact ⟨_, rfl, q pt ts H' hpt e' T1 (by omega)⟩
theorem scUnlike : FnScope ["boxes", "pairs", "a"] ["boxes"] (defScope sPUnlikePairs) := ⟨rfl, rfl, rfl, by decide +kernel, rfl, by decide +kernel, by decide +kernel⟩
theorem ok_unlike (h : Has K mg "unlike_pairs" sPUnlikePairs ["boxes"]) (B : Blt mg) : Cal P w K mg base 1 "unlike_pairs" ["boxes"] (spPrs unl) := by
  refine h.cal scUnlike (fun vs H Q E h => ?_) (fun f cdv A outer s H vs Q E hr h => ?_)
  . obtain ⟨pb, us, rfl, _⟩ := h
    rfl
  obtain ⟨pb, us, rfl, X, l4, q⟩ := h
  refine ⟨_, (dQ (lQ (i := 1) scUnlike.nd rfl (Or.inl rfl) (kZ fQ))
    (dQ (aX PassesOwn.never rfl (yZ rfl B.range (aQ (cZ zQ rfl B.len eX (aQ (pv 0) fQ)) fQ)) (rQ (i := 2) scUnlike.nd rfl (Or.inr rfl)) (mQ (xZ (yX PySem.F.plainAttrs_list PySem.F.slot_list_extend PySem.F.type_list_extend dJ (pv 1) (aQ (hW (defScope sPUnlikePairs) ["boxes", "pairs", "a"] (N := ["b", "a"]) (ix := [none, some 2]) rfl ⟨rfl, by decide +kernel, by decide +kernel, by decide +kernel, rfl, by decide +kernel⟩ (yZ rfl B.range (aQ (cZ zQ rfl B.len eX (aQ (pv 0) fQ)) fQ)) (fun _ _ _ _ => rQ (i := 0) (show (["b", "a"] : List Str).Nodup by decide +kernel) rfl (Or.inl rfl)) (fun _ _ _ _ => (oW (wQ rK (pv 0) (pv 1) (nomark _)))) (fun _ _ _ _ => (bX (aQ (pv 1) (aQ (pv 0) fQ))))) fQ)))))
    (mQ (tQ (pv 1))))), ?_⟩
  refine ⟨(by show 0 <= sizeLine; decide), fun pt hpt => ?_⟩
  refine ⟨_, rfl, pb, _, rfl, .inl (SqL.of (Same.new hpt _ _ _ X)), _, rfl, by omega, by omega, ?_⟩
  refine fX (lo := 0) (n := ((us.length : Nat) : Int).toNat) (fun i σ H' => ∃ (ts : List V) (c2 : Option V), σ = [some (.ref pb), some (.ref pt), c2] /\ TsAt ptup H' pt ts (fl (unlF us.length) i) /\ ts.length <= 4 * i /\ Same H H')
    ⟨[], none, rfl, TsAt.nil, Nat.le_refl _, Same.new hpt _⟩ ?_ ?_
  . rintro i σ H' hi ⟨ts, c2, rfl, T1, tl, e'⟩
    have e0 : (0 + (i : Int)) = ((i : Nat) : Int) := by omega
    rw [e0]
    refine ⟨_, rfl, .inl ⟨rfl, _, SqL.of T1.at_⟩, _, rfl, pb, _, rfl, .inl (SqL.of (e' _ _ X)), _, rfl, by omega, by omega, fun D hD => ?_⟩
    refine zW ptup (lo := 0) (n := ((us.length : Nat) : Int).toNat) (fun b => if b = (i : Int) then none else some (i, b.toNat)) hD (by omega) (fun k H4 K1 K2 k0 k1 _ z => ?_) fun ys H4 T4 e4 => ?_
    . refine ⟨_, rfl, _, rfl, rfl, _, rfl, ?_⟩
      by_cases ek : k = (i : Int)
      . rw [if_pos ek] at z
        exact iteNS (by rw [ek]) z
      . rw [if_neg ek] at z
        have z' : ∀ p, H4 p = none -> K1 (.ref p) (upd H4 p (.tup (ptup (i, k.toNat)))) := z
        have ek2 : ptup (i, k.toNat) = [.int (i : Nat), .int k] := by
          unfold ptup
          rw [show (((i, k.toNat).2 : Nat) : Int) = k from by show ((k.toNat : Nat) : Int) = k; omega]
        rw [ek2] at z'
        refine iteB (by rw [decide_eq_false (fun y => ek (by injection y))]; rfl) ?_
        exact ⟨_, rfl, _, rfl, (by show 2 <= sizeLine; decide), z'⟩
    have T5 := T1.same e4
    have yl : ys.length <= 4 := by
      rw [T4.each.1]
      refine Nat.le_trans (List.length_filterMap_le _ _) ?_
      rw [yW]
      omega
    refine ⟨pt, D, ts, ys, rfl, rfl, T5.at_, T4.at_, small (by omega), ?_⟩
    refine ⟨ts ++ ys, _, rfl, ?_, by rw [List.length_append]; omega, fun c u z => ?_⟩
    . rw [qW]
      rw [Int.toNat_natCast] at T4
      exact T5.ext T4
    . rw [sQ (qQ z hpt)]
      exact e4 _ _ (e' _ _ z)
  . rintro σ H' ⟨ts, c2, rfl, T1, tl, e'⟩
    rw [Int.toNat_natCast] at T1 tl
    exact ⟨_, rfl, q pt ts H' hpt e' T1 (by omega)⟩
end
def wpn (mk : Nat -> Nat -> Int -> Say) (w : Int) (prs : List (Nat × Nat)) : List Say := prs.flatMap fun x => (ir (-w) (w + 1 - -w).toNat).map (mk x.1 x.2)
def Say.nz : Say -> Bool
  | .gap _ _ n => !decide (n = 0)
  | _ => true
def gapL (n : Nat) : List Say := (wpn Say.gap 20 (rise n)).filter Say.nz
def w3 (mk : Nat -> Nat -> Nat -> Say) (n : Nat) (prs : List (Nat × Nat)) : List Say := prs.flatMap fun x => (ir 0 n).filterMap fun c => if c = (x.1 : Int) \/ c = (x.2 : Int) then none else some (mk x.1 x.2 c.toNat)
def prL (mk : Nat -> Nat -> Say) (prs : List (Nat × Nat)) : List Say := prs.map fun x => mk x.1 x.2
def sayl (bs : List Box) : List Say := wnum .is_ 0 0 bs ++ wnum .frm 1 0 bs ++ wnum .to_ 0 1 bs ++ restL bs ++ eithL bs ++ wnum .nev 0 0 bs ++ prL .same (rise bs.length) ++ prL .below (unl bs.length) ++ prL .most (unl bs.length) ++ gapL bs.length ++ wpn .sum 40 (rise bs.length) ++ w3 .adds bs.length (rise bs.length) ++ w3 .times bs.length (rise bs.length)
def spWithPair : Sp := fun vs H Q _ => ∃ (f : Str) (mk : Nat -> Nat -> Say) (pp : Addr) (up : List V) (prs : List (Nat × Nat)), vs = [.str f, .ref pp] /\ (∀ a b, (mk a b).tup = [.str f, .int (a : Nat), .int (b : Nat)]) /\ TsAt ptup H pp up prs /\ up.length <= 16 /\
  ∀ (p : Addr) (us' : List V) (H' : Hp), H p = none -> Same H H' -> SaysAt H' p us' (prL mk prs) -> us'.length <= 16 -> Q (.ref p) H'
def spWpn : Sp := fun vs H Q _ => ∃ (f : Str) (mk : Nat -> Nat -> Int -> Say) (pb : Addr) (w : Int) (us : List V), vs = [.str f, .ref pb, .int w] /\ (∀ a b n, (mk a b n).tup = [.str f, .int (a : Nat), .int (b : Nat), .int n]) /\ H pb = some (.lst us) /\ us.length <= 4 /\ 0 <= w /\ w <= 40 /\
  ∀ (p : Addr) (us' : List V) (H' : Hp), H p = none -> Same H H' -> SaysAt H' p us' (wpn mk w (rise us.length)) -> us'.length <= 1600 -> Q (.ref p) H'
def spGaps : Sp := fun vs H Q _ => ∃ (pb : Addr) (us : List V), vs = [.ref pb] /\ H pb = some (.lst us) /\ us.length <= 4 /\
  ∀ (p : Addr) (us' : List V) (H' : Hp), H p = none -> Same H H' -> SaysAt H' p us' (gapL us.length) -> us'.length <= 1600 -> Q (.ref p) H'
def spThree : Sp := fun vs H Q _ => ∃ (f : Str) (mk : Nat -> Nat -> Nat -> Say) (pb : Addr) (us : List V), vs = [.str f, .ref pb] /\ (∀ a b c, (mk a b c).tup = [.str f, .int (a : Nat), .int (b : Nat), .int (c : Nat)]) /\ H pb = some (.lst us) /\ us.length <= 4 /\
  ∀ (p : Addr) (us' : List V) (H' : Hp), H p = none -> Same H H' -> SaysAt H' p us' (w3 mk us.length (rise us.length)) -> us'.length <= 64 -> Q (.ref p) H'
def spSayings : Sp := fun vs H Q _ => ∃ (pp pb : Addr) (pw : V) (us : List V) (bs : List Box), vs = [.ref pp] /\ H pp = some (.tup [.ref pb, pw]) /\ BoxesAt H pb us bs /\ (∀ b ∈ bs, b.Ok) /\ bs.length <= 4 /\
  ∀ (p : Addr) (us' : List V) (H' : Hp), H p = none -> Same H H' -> SaysAt H' p us' (sayl bs) -> us'.length <= 6000 -> Q (.ref p) H'
theorem SaysAt.cat {H : Hp} {l b p : Addr} {xs zs : List V} {os qs : List Say} (h : SaysAt H l xs os) (g : SaysAt H b zs qs) (hp : H p = none) : SaysAt (upd H p (.lst (xs ++ zs))) p (xs ++ zs) (os ++ qs) :=
  ⟨jQ, gU ((h.same (Same.new hp _)).each) ((g.same (Same.new hp _)).each)⟩
section
variable {P : Program} {w : World} {K : PySem.W.Frag} {mg : Str -> Option Value} {base : Heap}
theorem scWithPair : FnScope ["form", "pairs"] ["form", "pairs"] (defScope sPWithPair) := ⟨rfl, rfl, rfl, by decide +kernel, rfl, by decide +kernel, by decide +kernel⟩
theorem hU (h : Has K mg "with_pair" sPWithPair ["form", "pairs"]) : Cal P w K mg base 1 "with_pair" ["form", "pairs"] spWithPair := by
  refine h.cal scWithPair (fun vs H Q E h => ?_) (fun f cdv A outer s H vs Q E hr h => ?_)
  . obtain ⟨f, mk, pp, up, prs, rfl, _⟩ := h
    rfl
  obtain ⟨fm, mk, pp, up, prs, rfl, hmk, X, l16, q⟩ := h
  have nd3 : (["a", "b", "form"] : List Str).Nodup := by decide +kernel
  refine ⟨_, (mQ (tQ (hW (defScope sPWithPair) ["form", "pairs"] (N := ["a", "b", "form"]) (ix := [none, none, some 0]) rfl ⟨rfl, by decide +kernel, by decide +kernel, by decide +kernel, rfl, by decide +kernel⟩ (uX (pv 1)) (fun _ _ _ _ => pgt K 2 rfl (hZ (rQ (i := 0) nd3 rfl (Or.inl rfl)) (hZ (rQ (i := 1) nd3 rfl (Or.inl rfl)) lJ))) (fun _ _ _ _ => eJ) (fun _ _ _ _ => (bX (aQ (pv 2) (aQ (pv 0) (aQ (pv 1) fQ)))))))), ?_⟩
  refine ⟨_, rfl, pp, rfl, ⟨_, SqL.of X.at_⟩, fun D hD => ?_⟩
  refine pW (K := K) (a := pp) (xs := up) (fun i ys σ H' => (∃ c0 c1 : Option V, σ = [c0, c1, some (.str fm)]) /\ TsAt Say.tup H' D ys (prL mk (prs.take i)) /\ Same H H' /\ ys.length <= i)
    ⟨⟨none, none, rfl⟩, TsAt.nil, Same.new hD _, Nat.le_refl _⟩ (fun i ys σ H' _ ⟨_, _, e, _⟩ => SqL.of (e _ _ X.at_)) ?_ ?_
  . rintro i x ys σ H' hi ⟨⟨c0, c1, rfl⟩, T1, e', hl⟩
    obtain ⟨x, hx, p, rfl, hp⟩ := X.each.at hi
    have hil := (List.getElem?_eq_some_iff.mp hi).1
    refine ⟨p, _, rfl, SqT.of (e' _ _ hp), rfl, _, _, rfl, _, _, rfl, rfl, ?_⟩
    refine ⟨_, rfl, _, rfl, _, rfl, (by show 3 <= sizeLine; decide), fun t ht => ?_⟩
    have s4 := Same.new ht (.tup [.str fm, .int (x.1 : Nat), .int (x.2 : Nat)])
    refine ⟨s4 _ _ T1.at_, small1000 (by omega), ⟨_, _, rfl⟩, ?_, fun c u z => ?_, by rw [List.length_append, List.length_singleton]; omega⟩
    . unfold prL
      rw [List.take_add_one, hx, List.map_append]
      have := T1.push (x := mk x.1 x.2) ht
      rw [hmk] at this
      exact this
    . rw [sQ (qQ z hD)]
      exact s4 _ _ (e' _ _ z)
  . rintro ys σ H' ⟨_, T1, e', hl⟩
    rw [X.each.1, List.take_length] at T1
    exact q D ys H' hD e' T1.says (by omega)
theorem scWpn : FnScope ["form", "boxes", "widest", "told", "a", "b"] ["form", "boxes", "widest"] (defScope sPWithPairAndNumber) := ⟨rfl, rfl, rfl, by decide +kernel, rfl, by decide +kernel, by decide +kernel⟩
theorem ok_wpn (h : Has K mg "with_pair_and_number" sPWithPairAndNumber ["form", "boxes", "widest"]) (B : Blt mg) (cR : Cal P w K mg base 1 "rising_pairs" ["boxes"] (spPrs rise)) : Cal P w K mg base 2 "with_pair_and_number" ["form", "boxes", "widest"] spWpn := by
  refine h.cal scWpn (fun vs H Q E h => ?_) (fun f cdv A outer s H vs Q E hr h => ?_)
  . obtain ⟨f, mk, pb, w', us, rfl, _⟩ := h
    rfl
  obtain ⟨fm, mk, pb, w', us, rfl, hmk, X, l4, w0, w40, q⟩ := h
  refine ⟨_, (dQ (lQ (i := 3) scWpn.nd rfl (Or.inl rfl) (kZ fQ))
    (dQ (aX PassesOwn.never rfl (uX (nQ cR hr rfl (aQ (pv 1) fQ))) (iW rfl (hZ (rQ (i := 4) scWpn.nd rfl (Or.inr rfl)) (hZ (rQ (i := 5) scWpn.nd rfl (Or.inr rfl)) lJ))) (mQ (xZ (yX PySem.F.plainAttrs_list PySem.F.slot_list_extend PySem.F.type_list_extend dJ (pv 3) (aQ (hW (defScope sPWithPairAndNumber) ["form", "boxes", "widest", "told", "a", "b"] (N := ["n", "form", "a", "b"]) (ix := [none, some 0, some 4, some 5]) rfl ⟨rfl, by decide +kernel, by decide +kernel, by decide +kernel, rfl, by decide +kernel⟩ (cJ rfl B.range (aQ (gY wW (pv 2)) (aQ (pQ eZ (pv 2) iQ) fQ))) (fun _ _ _ _ => rQ (i := 0) (show (["n", "form", "a", "b"] : List Str).Nodup by decide +kernel) rfl (Or.inl rfl)) (fun _ _ _ _ => eJ) (fun _ _ _ _ => (bX (aQ (pv 1) (aQ (pv 2) (aQ (pv 3) (aQ (pv 0) fQ))))))) fQ)))))
    (mQ (tQ (pv 3))))), ?_⟩
  refine ⟨(by show 0 <= sizeLine; decide), fun pt hpt => ?_⟩
  have s1 := Same.new hpt (.lst [])
  have T0 : TsAt Say.tup (upd H pt (.lst [])) pt [] [] := TsAt.nil
  generalize upd H pt (.lst []) = H1 at *
  refine ⟨_, rfl, pb, us, rfl, s1 _ _ X, l4, fun pr ur H2 hpr s2 R2 r16 => ?_⟩
  have s12 := s1.trans s2
  refine ⟨pr, rfl, ⟨_, SqL.of R2.at_⟩, sJ (K := K) (a := pr) (xs := ur) (fun i σ H' => ∃ (ts : List V) (c4 c5 : Option V), σ = [some (.str fm), some (.ref pb), some (.int w'), some (.ref pt), c4, c5] /\ TsAt Say.tup H' pt ts (wpn mk w' ((rise us.length).take i)) /\ ts.length <= 100 * i /\ Same H H' /\ TsAt ptup H' pr ur (rise us.length))
    ⟨[], none, none, rfl, T0.same s2, Nat.le_refl _, s12, R2⟩ (fun i σ H' _ ⟨_, _, _, _, _, _, _, R⟩ => SqL.of R.at_) ?_ ?_⟩
  . rintro i x σ H' hi ⟨ts, c4, c5, rfl, T1, tl, e', R1⟩
    obtain ⟨x, hx, p, rfl, hp⟩ := R1.each.at hi
    have hil := (List.getElem?_eq_some_iff.mp hi).1
    refine ⟨p, _, rfl, SqT.of hp, rfl, _, _, rfl, _, _, rfl, rfl, ?_⟩
    refine ⟨_, rfl, .inl ⟨rfl, _, SqL.of T1.at_⟩, _, rfl, _, rfl, _, rfl, _, _, rfl, rfl, _, _, rfl, ⟨by omega, by omega, by omega, by omega⟩, fun D hD => ?_⟩
    refine zW Say.tup (lo := -w') (n := (w' + 1 - -w').toNat) (fun n => some (mk x.1 x.2 n)) hD (by omega) (fun k H4 K1 K2 _ _ _ z => ?_) fun ys H4 T4 e4 => ?_
    . have z' : ∀ p, H4 p = none -> K1 (.ref p) (upd H4 p (.tup (mk x.1 x.2 k).tup)) := z
      rw [hmk] at z'
      exact fK ⟨_, rfl, _, rfl, _, rfl, _, rfl, (by show 4 <= sizeLine; decide), z'⟩
    rw [show (fun n => some (mk x.1 x.2 n)) = some ∘ (fun n => mk x.1 x.2 n) from rfl, List.filterMap_eq_map] at T4
    have T5 := T1.same e4
    have R5 := R1.same e4
    have ntr : pt ≠ pr := fun z => by
      have h1 := T1.at_
      have hc := qQ (H := H1) (a := pt) (b := pr) T0.at_ hpr
      exact hc z
    have yl : ys.length <= 81 := by
      rw [T4.each.1, List.length_map, yW]
      omega
    refine ⟨pt, D, ts, ys, rfl, rfl, T5.at_, T4.at_, sz' (by omega), ?_⟩
    refine ⟨ts ++ ys, _, _, rfl, ?_, by rw [List.length_append]; omega, fun c u z => ?_, ⟨?_, R5.each_put T5.at_⟩⟩
    . unfold wpn
      rw [List.take_add_one, hx, List.flatMap_append]
      have := T5.ext T4
      simpa [wpn] using this
    . rw [sQ (qQ z hpt)]
      exact e4 _ _ (e' _ _ z)
    . rw [sQ ntr.symm]
      exact R5.at_
  . rintro σ H' ⟨ts, c4, c5, rfl, T1, tl, e', R1⟩
    rw [R1.each.1, List.take_length] at T1
    refine ⟨_, rfl, q pt ts H' hpt e' T1.says ?_⟩
    omega
theorem scGaps : FnScope ["boxes"] ["boxes"] (defScope sPGaps) := ⟨rfl, rfl, rfl, by decide +kernel, rfl, by decide +kernel, by decide +kernel⟩
theorem ok_gaps (h : Has K mg "gaps" sPGaps ["boxes"]) (gl : Glb K mg) (cW : Cal P w K mg base 2 "with_pair_and_number" ["form", "boxes", "widest"] spWpn) : Cal P w K mg base 3 "gaps" ["boxes"] spGaps := by
  refine h.cal scGaps (fun vs H Q E h => ?_) (fun f cdv A outer s H vs Q E hr h => ?_)
  . obtain ⟨pb, us, rfl, _⟩ := h
    rfl
  obtain ⟨pb, us, rfl, X, l4, q⟩ := h
  obtain ⟨tk1, hm1⟩ := gl.WIDEST_GAP
  refine ⟨_, (mQ (tQ (hW (defScope sPGaps) ["boxes"] (N := ["saying"]) (ix := [none]) rfl ⟨rfl, by decide +kernel, by decide +kernel, by decide +kernel, rfl, by decide +kernel⟩ (uX (nQ cW hr rfl (aQ oQ (aQ (pv 0) (aQ (tX (v := .int 20) rfl hm1 ⟨_, rfl⟩) fQ))))) (fun _ _ _ _ => rQ (i := 0) (show (["saying"] : List Str).Nodup by decide +kernel) rfl (Or.inl rfl)) (fun _ _ _ _ => (oW (wQ rK (bZ (ixt K) (pv 0) iQ (fun _ _ => rfl)) iQ (nomark _)))) (fun _ _ _ _ => (pv 0))))), ?_⟩
  refine ⟨_, rfl, "gap", Say.gap, pb, 20, us, rfl, (fun a b n => rfl), X, l4, by decide, by decide, fun pw uw H1 hpw s1 W1 wl => ?_⟩
  refine ⟨pw, rfl, ⟨_, SqL.of W1.at_⟩, fun D hD => ?_⟩
  refine pW (K := K) (a := pw) (xs := uw) (fun i ys σ H' => (∃ c0 : Option V, σ = [c0]) /\ SaysAt H' D ys (((wpn Say.gap 20 (rise us.length)).take i).filter Say.nz) /\ Same H1 H' /\ ys.length <= i)
    ⟨⟨none, rfl⟩, ⟨jQ, All2.nil⟩, Same.new hD _, Nat.le_refl _⟩ (fun i ys σ H' _ ⟨_, _, e, _⟩ => SqL.of (e _ _ W1.at_)) ?_ ?_
  . rintro i x ys σ H' hi ⟨⟨c0, rfl⟩, T1, e', hl⟩
    obtain ⟨o, ho, p, rfl, hp⟩ := W1.each.at hi
    have hil := (List.getElem?_eq_some_iff.mp hi).1
    obtain ⟨a, b, n, rfl⟩ : ∃ a b n, o = Say.gap a b n := by
      have hm := List.mem_of_getElem? ho
      unfold wpn at hm
      obtain ⟨x, _, hm2⟩ := List.mem_flatMap.mp hm
      obtain ⟨n, _, e⟩ := List.mem_map.mp hm2
      exact ⟨_, _, n, e.symm⟩
    have tk : (wpn Say.gap 20 (rise us.length)).take (i + 1) = (wpn Say.gap 20 (rise us.length)).take i ++ [Say.gap a b n] := by rw [List.take_add_one, ho]; rfl
    refine ⟨_, rfl, p, _, _, _, rfl, rfl, SqT.of (e' _ _ hp), rfl, rfl, _, rfl, ?_⟩
    by_cases en : n = 0
    . refine iteNS (by rw [en]) ⟨⟨_, rfl⟩, ?_, e', by omega⟩
      rw [tk, List.filter_append]
      have : [Say.gap a b n].filter Say.nz = [] := by simp [Say.nz, en]
      rw [this, List.append_nil]
      exact T1
    . refine iteB (by rw [decide_eq_false (fun y => en (by injection y))]; rfl) ?_
      refine ⟨_, rfl, T1.at_, sz (by omega), ⟨_, rfl⟩, ?_, fun c u z => ?_, by rw [List.length_append, List.length_singleton]; omega⟩
      . rw [tk, List.filter_append]
        have : [Say.gap a b n].filter Say.nz = [Say.gap a b n] := by simp [Say.nz, en]
        rw [this]
        exact ⟨jQ, (T1.each.mono fun _ _ z => z.put T1.at_).snoc (SayAt.put ⟨p, rfl, e' _ _ hp⟩ T1.at_)⟩
      . rw [sQ (qQ z hD)]
        exact e' _ _ z
  . rintro ys σ H' ⟨_, T1, e', hl⟩
    rw [W1.each.1, List.take_length] at T1
    exact q D ys H' (Same.free s1 hD) (s1.trans e') T1 (by omega)
theorem scThree : FnScope ["form", "boxes", "told", "a", "b"] ["form", "boxes"] (defScope sPWithThree) := ⟨rfl, rfl, rfl, by decide +kernel, rfl, by decide +kernel, by decide +kernel⟩
theorem ok_three (h : Has K mg "with_three" sPWithThree ["form", "boxes"]) (B : Blt mg) (cR : Cal P w K mg base 1 "rising_pairs" ["boxes"] (spPrs rise)) : Cal P w K mg base 2 "with_three" ["form", "boxes"] spThree := by
  refine h.cal scThree (fun vs H Q E h => ?_) (fun f cdv A outer s H vs Q E hr h => ?_)
  . obtain ⟨f, mk, pb, us, rfl, _⟩ := h
    rfl
  obtain ⟨fm, mk, pb, us, rfl, hmk, X, l4, q⟩ := h
  refine ⟨_, (dQ (lQ (i := 2) scThree.nd rfl (Or.inl rfl) (kZ fQ))
    (dQ (aX PassesOwn.never rfl (uX (nQ cR hr rfl (aQ (pv 1) fQ))) (iW rfl (hZ (rQ (i := 3) scThree.nd rfl (Or.inr rfl)) (hZ (rQ (i := 4) scThree.nd rfl (Or.inr rfl)) lJ))) (mQ (xZ (yX PySem.F.plainAttrs_list PySem.F.slot_list_extend PySem.F.type_list_extend dJ (pv 2) (aQ (hW (defScope sPWithThree) ["form", "boxes", "told", "a", "b"] (N := ["c", "form", "a", "b"]) (ix := [none, some 0, some 3, some 4]) rfl ⟨rfl, by decide +kernel, by decide +kernel, by decide +kernel, rfl, by decide +kernel⟩ (yZ rfl B.range (aQ (cZ zQ rfl B.len eX (aQ (pv 1) fQ)) fQ)) (fun _ _ _ _ => rQ (i := 0) (show (["c", "form", "a", "b"] : List Str).Nodup by decide +kernel) rfl (Or.inl rfl)) (fun _ _ _ _ => (oW (PW.pt (pV (wQ rK (pv 0) (pv 2) (nomark _)) (fV (wQ rK (pv 0) (pv 3) (nomark _))))))) (fun _ _ _ _ => (bX (aQ (pv 1) (aQ (pv 2) (aQ (pv 3) (aQ (pv 0) fQ))))))) fQ)))))
    (mQ (tQ (pv 2))))), ?_⟩
  refine ⟨(by show 0 <= sizeLine; decide), fun pt hpt => ?_⟩
  have s1 := Same.new hpt (.lst [])
  have T0 : TsAt Say.tup (upd H pt (.lst [])) pt [] [] := TsAt.nil
  generalize upd H pt (.lst []) = H1 at *
  refine ⟨_, rfl, pb, us, rfl, s1 _ _ X, l4, fun pr ur H2 hpr s2 R2 r16 => ?_⟩
  have s12 := s1.trans s2
  have ntr : pt ≠ pr := qQ T0.at_ hpr
  refine ⟨pr, rfl, ⟨_, SqL.of R2.at_⟩, sJ (K := K) (a := pr) (xs := ur) (fun i σ H' => ∃ (ts : List V) (c3 c4 : Option V), σ = [some (.str fm), some (.ref pb), some (.ref pt), c3, c4] /\ TsAt Say.tup H' pt ts (w3 mk us.length ((rise us.length).take i)) /\ ts.length <= 4 * i /\ Same H H' /\ TsAt ptup H' pr ur (rise us.length))
    ⟨[], none, none, rfl, T0.same s2, Nat.le_refl _, s12, R2⟩ (fun i σ H' _ ⟨_, _, _, _, _, _, _, R⟩ => SqL.of R.at_) ?_ ?_⟩
  . rintro i x σ H' hi ⟨ts, c3, c4, rfl, T1, tl, e', R1⟩
    obtain ⟨x, hx, p, rfl, hp⟩ := R1.each.at hi
    have hil := (List.getElem?_eq_some_iff.mp hi).1
    refine ⟨p, _, rfl, SqT.of hp, rfl, _, _, rfl, _, _, rfl, rfl, ?_⟩
    refine ⟨_, rfl, .inl ⟨rfl, _, SqL.of T1.at_⟩, _, rfl, pb, _, rfl, .inl (SqL.of (e' _ _ X)), _, rfl, by omega, by omega, fun D hD => ?_⟩
    refine zW Say.tup (lo := 0) (n := ((us.length : Nat) : Int).toNat) (fun c => if c = (x.1 : Int) \/ c = (x.2 : Int) then none else some (mk x.1 x.2 c.toNat)) hD (by omega) (fun k H4 K1 K2 k0 k1 _ z => ?_) fun ys H4 T4 e4 => ?_
    . refine ⟨_, rfl, _, rfl, rfl, _, rfl, ?_⟩
      by_cases ea : k = (x.1 : Int)
      . rw [if_pos (.inl ea)] at z
        exact iteNS (by rw [ea]) (iteF z)
      . refine iteB (by rw [decide_eq_false (fun y => ea (by injection y))]; rfl) ?_
        refine ⟨_, rfl, _, rfl, rfl, _, rfl, ?_⟩
        by_cases eb : k = (x.2 : Int)
        . rw [if_pos (.inr eb)] at z
          exact iteNS (by rw [eb]) z
        . rw [if_neg (fun y => y.elim ea eb)] at z
          have z' : ∀ p, H4 p = none -> K1 (.ref p) (upd H4 p (.tup (mk x.1 x.2 k.toNat).tup)) := z
          rw [hmk, show ((k.toNat : Nat) : Int) = k from by omega] at z'
          refine iteB (by rw [decide_eq_false (fun y => eb (by injection y))]; rfl) ?_
          exact ⟨_, rfl, _, rfl, _, rfl, _, rfl, (by show 4 <= sizeLine; decide), z'⟩
    have T5 := T1.same e4
    have R5 := R1.same e4
    have yl : ys.length <= 4 := by
      rw [T4.each.1]
      refine Nat.le_trans (List.length_filterMap_le _ _) ?_
      rw [yW]
      omega
    refine ⟨pt, D, ts, ys, rfl, rfl, T5.at_, T4.at_, small (by omega), ?_⟩
    refine ⟨ts ++ ys, _, _, rfl, ?_, by rw [List.length_append]; omega, fun c u z => ?_, ⟨?_, R5.each_put T5.at_⟩⟩
    . rw [Int.toNat_natCast] at T4
      unfold w3
      rw [List.take_add_one, hx, List.flatMap_append]
      have := T5.ext T4
      simpa [w3] using this
    . rw [sQ (qQ z hpt)]
      exact e4 _ _ (e' _ _ z)
    . rw [sQ ntr.symm]
      exact R5.at_
  . rintro σ H' ⟨ts, c3, c4, rfl, T1, tl, e', R1⟩
    rw [R1.each.1, List.take_length] at T1
    exact ⟨_, rfl, q pt ts H' hpt e' T1.says (by omega)⟩
end
section
variable {P : Program} {w : World} {K : PySem.W.Frag} {mg : Str -> Option Value} {base : Heap}
theorem scSayings : FnScope ["program", "boxes"] ["program"] (defScope sPSayings) := ⟨rfl, rfl, rfl, by decide +kernel, rfl, by decide +kernel, by decide +kernel⟩
theorem bO (h : Has K mg "sayings" sPSayings ["program"]) (gl : Glb K mg) (cN : Cal P w K mg base 1 "with_number" ["form", "boxes", "above", "below"] spWithNumber) (cR : Cal P w K mg base 1 "rests" ["boxes"] (spBx restL 120)) (cE : Cal P w K mg base 1 "eithers" ["boxes"] (spBx eithL 1600)) (cP : Cal P w K mg base 1 "with_pair" ["form", "pairs"] spWithPair) (cI : Cal P w K mg base 1 "rising_pairs" ["boxes"] (spPrs rise)) (cU : Cal P w K mg base 1 "unlike_pairs" ["boxes"] (spPrs unl)) (cG : Cal P w K mg base 3 "gaps" ["boxes"] spGaps) (cW : Cal P w K mg base 2 "with_pair_and_number" ["form", "boxes", "widest"] spWpn) (cT : Cal P w K mg base 2 "with_three" ["form", "boxes"] spThree) : Cal P w K mg base 4 "sayings" ["program"] spSayings := by
  refine h.cal scSayings (fun vs H Q E h => ?_) (fun f cdv A outer s H vs Q E hr h => ?_)
  . obtain ⟨pp, pb, pw, us, bs, rfl, _⟩ := h
    rfl
  obtain ⟨pp, pb, pw, us, bs, rfl, hpp, X, ok, l4, q⟩ := h
  obtain ⟨tk1, hm1⟩ := gl.WIDEST_SUM
  have hr3 : Room 3 _ := hr
  have hr2 : Room 2 _ := hr.mono (by decide)
  have hr1 : Room 1 _ := hr.mono (by decide)
  have ul : us.length = bs.length := X.each.1
  have l4' : us.length <= 4 := by omega
  refine ⟨_, (@dQ _ _ _ _ _ (@lQ _ _ 1 _ _ _ _ scSayings.nd rfl (Or.inl rfl) (@bZ _ _ _ _ _ _ _ xX (pv 0) iQ (fun _ _ => rfl)) rfl (Or.inl rfl)) (@mQ _ _ _ (@tQ _ _ _ _ (@pQ _ _ _ _ _ _ _ _ dX (@pQ _ _ _ _ _ _ _ _ dX (@pQ _ _ _ _ _ _ _ _ dX (@pQ _ _ _ _ _ _ _ _ dX (@pQ _ _ _ _ _ _ _ _ dX (@pQ _ _ _ _ _ _ _ _ dX (@pQ _ _ _ _ _ _ _ _ dX (@pQ _ _ _ _ _ _ _ _ dX (@pQ _ _ _ _ _ _ _ _ dX (@pQ _ _ _ _ _ _ _ _ dX (@pQ _ _ _ _ _ _ _ _ dX (@pQ _ _ _ _ _ _ _ _ dX (nQ cN hr1 rfl (@aQ _ _ _ _ _ oQ (@aQ _ _ _ _ _ (pv 1) (@aQ _ _ _ _ _ iQ (@aQ _ _ _ _ _ iQ fQ rfl) rfl) rfl) rfl)) (nQ cN hr1 rfl (@aQ _ _ _ _ _ oQ (@aQ _ _ _ _ _ (pv 1) (@aQ _ _ _ _ _ iQ (@aQ _ _ _ _ _ iQ fQ rfl) rfl) rfl) rfl))) (nQ cN hr1 rfl (@aQ _ _ _ _ _ oQ (@aQ _ _ _ _ _ (pv 1) (@aQ _ _ _ _ _ iQ (@aQ _ _ _ _ _ iQ fQ rfl) rfl) rfl) rfl))) (nQ cR hr1 rfl (@aQ _ _ _ _ _ (pv 1) fQ rfl))) (nQ cE hr1 rfl (@aQ _ _ _ _ _ (pv 1) fQ rfl))) (nQ cN hr1 rfl (@aQ _ _ _ _ _ oQ (@aQ _ _ _ _ _ (pv 1) (@aQ _ _ _ _ _ iQ (@aQ _ _ _ _ _ iQ fQ rfl) rfl) rfl) rfl))) (nQ cP hr1 rfl (@aQ _ _ _ _ _ oQ (@aQ _ _ _ _ _ (nQ cI hr1 rfl (@aQ _ _ _ _ _ (pv 1) fQ rfl)) fQ rfl) rfl))) (nQ cP hr1 rfl (@aQ _ _ _ _ _ oQ (@aQ _ _ _ _ _ (nQ cU hr1 rfl (@aQ _ _ _ _ _ (pv 1) fQ rfl)) fQ rfl) rfl))) (nQ cP hr1 rfl (@aQ _ _ _ _ _ oQ (@aQ _ _ _ _ _ (nQ cU hr1 rfl (@aQ _ _ _ _ _ (pv 1) fQ rfl)) fQ rfl) rfl))) (nQ cG hr3 rfl (@aQ _ _ _ _ _ (pv 1) fQ rfl))) (nQ cW hr2 rfl (@aQ _ _ _ _ _ oQ (@aQ _ _ _ _ _ (pv 1) (@aQ _ _ _ _ _ (tX (v := .int 40) rfl hm1 ⟨_, rfl⟩) fQ rfl) rfl) rfl))) (nQ cT hr2 rfl (@aQ _ _ _ _ _ oQ (@aQ _ _ _ _ _ (pv 1) fQ rfl) rfl))) (nQ cT hr2 rfl (@aQ _ _ _ _ _ oQ (@aQ _ _ _ _ _ (pv 1) fQ rfl) rfl)))))), ?_⟩
  refine ⟨_, rfl, pp, _, _, _, rfl, rfl, SqT.of hpp, rfl, ?_⟩
  refine ⟨_, rfl, "is", Say.is_, pb, 0, 0, us, bs, rfl, (fun i n => rfl), X, ok, l4, by decide, by decide, by decide, by decide, fun p1 u1 H1 _ s1 S1 n1 => ?_⟩
  refine ⟨_, rfl, "from", Say.frm, pb, 1, 0, us, bs, rfl, (fun i n => rfl), X.same s1, ok, l4, by decide, by decide, by decide, by decide, fun p2 u2 H2 _ s2 S2 n2 => ?_⟩
  refine ⟨p1, p2, u1, u2, rfl, rfl, (S1.same s2).at_, S2.at_, sz' (by omega), fun c1 hc1 => ?_⟩
  have C1 := (S1.same s2).cat S2 hc1
  have t1 := (s1.trans s2).trans (Same.new hc1 (.lst (u1 ++ u2)))
  have m1 : (u1 ++ u2).length <= 200 := by rw [List.length_append]; omega
  generalize upd H2 c1 (.lst (u1 ++ u2)) = G1 at *
  refine ⟨_, rfl, "to", Say.to_, pb, 0, 1, us, bs, rfl, (fun i n => rfl), X.same t1, ok, l4, by decide, by decide, by decide, by decide, fun p3 u3 H3 _ s3 S3 n3 => ?_⟩
  refine ⟨c1, p3, _, u3, rfl, rfl, (C1.same s3).at_, S3.at_, sz' (by omega), fun c2 hc2 => ?_⟩
  have C2 := (C1.same s3).cat S3 hc2
  have t2 := (t1.trans s3).trans (Same.new hc2 (.lst (u1 ++ u2 ++ u3)))
  have m2 : (u1 ++ u2 ++ u3).length <= 400 := by rw [List.length_append]; omega
  generalize upd H3 c2 (.lst (u1 ++ u2 ++ u3)) = G2 at *
  generalize u1 ++ u2 ++ u3 = v2 at *
  refine ⟨_, rfl, pb, us, bs, rfl, X.same t2, ok, l4, fun p4 u4 H4 _ s4 S4 n4 => ?_⟩
  refine ⟨c2, p4, _, u4, rfl, rfl, (C2.same s4).at_, S4.at_, sz' (by omega), fun c3 hc3 => ?_⟩
  have C3 := (C2.same s4).cat S4 hc3
  have t3 := (t2.trans s4).trans (Same.new hc3 (.lst (v2 ++ u4)))
  have m3 : (v2 ++ u4).length <= 600 := by rw [List.length_append]; omega
  generalize upd H4 c3 (.lst (v2 ++ u4)) = G3 at *
  generalize v2 ++ u4 = v3 at *
  refine ⟨_, rfl, pb, us, bs, rfl, X.same t3, ok, l4, fun p5 u5 H5 _ s5 S5 n5 => ?_⟩
  refine ⟨c3, p5, _, u5, rfl, rfl, (C3.same s5).at_, S5.at_, sz' (by omega), fun c4 hc4 => ?_⟩
  have C4 := (C3.same s5).cat S5 hc4
  have t4 := (t3.trans s5).trans (Same.new hc4 (.lst (v3 ++ u5)))
  have m4 : (v3 ++ u5).length <= 2200 := by rw [List.length_append]; omega
  generalize upd H5 c4 (.lst (v3 ++ u5)) = G4 at *
  generalize v3 ++ u5 = v4 at *
  refine ⟨_, rfl, "never", Say.nev, pb, 0, 0, us, bs, rfl, (fun i n => rfl), X.same t4, ok, l4, by decide, by decide, by decide, by decide, fun p6 u6 H6 _ s6 S6 n6 => ?_⟩
  refine ⟨c4, p6, _, u6, rfl, rfl, (C4.same s6).at_, S6.at_, sz' (by omega), fun c5 hc5 => ?_⟩
  have C5 := (C4.same s6).cat S6 hc5
  have t5 := (t4.trans s6).trans (Same.new hc5 (.lst (v4 ++ u6)))
  have m5 : (v4 ++ u6).length <= 2300 := by rw [List.length_append]; omega
  generalize upd H6 c5 (.lst (v4 ++ u6)) = G5 at *
  generalize v4 ++ u6 = v5 at *
  refine ⟨_, rfl, pb, us, rfl, t5 _ _ X.at_, l4', fun r7 w7 J7 _ i7 R7 r16 => ?_⟩
  refine ⟨"same", Say.same, r7, w7, rise us.length, rfl, (fun a b => rfl), R7, r16, fun p7 u7 H7 _ s7 S7 n7 => ?_⟩
  have C5' := (C5.same i7).same s7
  refine ⟨c5, p7, _, u7, rfl, rfl, C5'.at_, S7.at_, sz' (by omega), fun c6 hc6 => ?_⟩
  have C6 := C5'.cat S7 hc6
  have t6 := ((t5.trans i7).trans s7).trans (Same.new hc6 (.lst (v5 ++ u7)))
  have m6 : (v5 ++ u7).length <= 2400 := by rw [List.length_append]; omega
  generalize upd H7 c6 (.lst (v5 ++ u7)) = G6 at *
  generalize v5 ++ u7 = v6 at *
  refine ⟨_, rfl, pb, us, rfl, t6 _ _ X.at_, l4', fun r8 w8 J8 _ i8 R8 r16 => ?_⟩
  refine ⟨"below", Say.below, r8, w8, unl us.length, rfl, (fun a b => rfl), R8, r16, fun p8 u8 H8 _ s8 S8 n8 => ?_⟩
  have C6' := (C6.same i8).same s8
  refine ⟨c6, p8, _, u8, rfl, rfl, C6'.at_, S8.at_, sz' (by omega), fun c7 hc7 => ?_⟩
  have C7 := C6'.cat S8 hc7
  have t7 := ((t6.trans i8).trans s8).trans (Same.new hc7 (.lst (v6 ++ u8)))
  have m7 : (v6 ++ u8).length <= 2500 := by rw [List.length_append]; omega
  generalize upd H8 c7 (.lst (v6 ++ u8)) = G7 at *
  generalize v6 ++ u8 = v7 at *
  refine ⟨_, rfl, pb, us, rfl, t7 _ _ X.at_, l4', fun r9 w9 J9 _ i9 R9 r16 => ?_⟩
  refine ⟨"most", Say.most, r9, w9, unl us.length, rfl, (fun a b => rfl), R9, r16, fun p9 u9 H9 _ s9 S9 n9 => ?_⟩
  have C7' := (C7.same i9).same s9
  refine ⟨c7, p9, _, u9, rfl, rfl, C7'.at_, S9.at_, sz' (by omega), fun c8 hc8 => ?_⟩
  have C8 := C7'.cat S9 hc8
  have t8 := ((t7.trans i9).trans s9).trans (Same.new hc8 (.lst (v7 ++ u9)))
  have m8 : (v7 ++ u9).length <= 2600 := by rw [List.length_append]; omega
  generalize upd H9 c8 (.lst (v7 ++ u9)) = G8 at *
  generalize v7 ++ u9 = v8 at *
  refine ⟨_, rfl, pb, us, rfl, t8 _ _ X.at_, l4', fun pA uA HA _ sA SA nA => ?_⟩
  refine ⟨c8, pA, _, uA, rfl, rfl, (C8.same sA).at_, SA.at_, sz' (by omega), fun c9 hc9 => ?_⟩
  have C9 := (C8.same sA).cat SA hc9
  have t9 := (t8.trans sA).trans (Same.new hc9 (.lst (v8 ++ uA)))
  have m9 : (v8 ++ uA).length <= 4200 := by rw [List.length_append]; omega
  generalize upd HA c9 (.lst (v8 ++ uA)) = G9 at *
  generalize v8 ++ uA = v9 at *
  refine ⟨_, rfl, "sum", Say.sum, pb, 40, us, rfl, (fun a b n => rfl), t9 _ _ X.at_, l4', by decide, by decide, fun pB uB HB _ sB SB nB => ?_⟩
  refine ⟨c9, pB, _, uB, rfl, rfl, (C9.same sB).at_, SB.at_, sz' (by omega), fun cA hcA => ?_⟩
  have CA := (C9.same sB).cat SB hcA
  have tA := (t9.trans sB).trans (Same.new hcA (.lst (v9 ++ uB)))
  have mA : (v9 ++ uB).length <= 5800 := by rw [List.length_append]; omega
  generalize upd HB cA (.lst (v9 ++ uB)) = GA at *
  generalize v9 ++ uB = vA at *
  refine ⟨_, rfl, "adds", Say.adds, pb, us, rfl, (fun a b c => rfl), tA _ _ X.at_, l4', fun pC uC HC _ sC SC nC => ?_⟩
  refine ⟨cA, pC, _, uC, rfl, rfl, (CA.same sC).at_, SC.at_, sz' (by omega), fun cB hcB => ?_⟩
  have CB := (CA.same sC).cat SC hcB
  have tB := (tA.trans sC).trans (Same.new hcB (.lst (vA ++ uC)))
  have mB : (vA ++ uC).length <= 5900 := by rw [List.length_append]; omega
  generalize upd HC cB (.lst (vA ++ uC)) = GB at *
  generalize vA ++ uC = vB at *
  refine ⟨_, rfl, "times", Say.times, pb, us, rfl, (fun a b c => rfl), tB _ _ X.at_, l4', fun pD uD HD hpD sD SD nD => ?_⟩
  refine ⟨cB, pD, _, uD, rfl, rfl, (CB.same sD).at_, SD.at_, sz' (by omega), fun cC hcC => ?_⟩
  have CC := (CB.same sD).cat SD hcC
  have tC := tB.trans sD
  rw [ul] at CC
  refine q cC _ _ (Same.free tC hcC) (tC.trans (Same.new hcC _)) CC ?_
  rw [List.length_append]
  omega
end
def Say.Fit1 (low high : Int) : Say -> Prop
  | .is_ _ n | .nev _ n => low <= n /\ n <= high
  | .frm _ n => low < n /\ n <= high
  | .to_ _ n => low <= n /\ n < high
  | .rest _ m r => 2 <= m /\ m <= 6 /\ 0 <= r /\ r < m
  | .eith _ n k => low <= n /\ n < k /\ k <= high
  | _ => False
theorem Say.Fit1.one {s : Say} {low high : Int} (h : s.Fit1 low high) : s.one = true := by
  cases s <;> first | rfl | exact h.elim
theorem Say.Fit1.inn {s : Say} {low high : Int} {many : Nat} (h : s.Fit1 low high) (hm : s.fst < many) : s.In many := by
  cases s <;> first | exact h.elim | exact hm | exact ⟨hm, Int.lt_of_lt_of_le (by decide) h.1⟩
def Say.Fit2 (many : Nat) : Say -> Prop
  | .same a b => a < b /\ b < many
  | .below a b | .most a b => a < many /\ b < many /\ a ≠ b
  | .gap a b n => a < b /\ b < many /\ -20 <= n /\ n <= 20 /\ n ≠ 0
  | .sum a b n => a < b /\ b < many /\ -40 <= n /\ n <= 40
  | .adds a b c | .times a b c => a < b /\ b < many /\ c < many /\ c ≠ a /\ c ≠ b
  | _ => False
def Say.Of (bs : List Box) (s : Say) : Prop := (∃ b, bs[s.fst]? = some b /\ s.Fit1 b.lo b.hi) \/ s.Fit2 bs.length
theorem Say.Fit2.inn {s : Say} {many : Nat} (h : s.Fit2 many) : s.In many := by
  cases s <;> first | exact h.elim | exact ⟨Nat.lt_trans h.1 h.2.1, h.2.1⟩ | exact ⟨Nat.lt_trans h.1 h.2, h.2⟩ | exact ⟨h.1, h.2.1⟩ | exact ⟨Nat.lt_trans h.1 h.2.1, h.2.1, h.2.2.1⟩
theorem Say.Of.inn {s : Say} {bs : List Box} (h : s.Of bs) : s.In bs.length := by
  rcases h with ⟨b, e, h⟩ | h
  . exact h.inn (List.getElem?_eq_some_iff.mp e).1
  . exact h.inn
def cs (x : Str) : List Nat := x.cps.toList
theorem vZ (x : Str) : (cs x).length = x.length := Array.length_toList
theorem gQ (x y : Str) : cs (x ++ y) = cs x ++ cs y := by
  show (x ++ y).cps.toList = _
  rw [PySem.Str.cps_append, Array.toList_append]
  rfl
theorem gK {x y : Str} (h : cs x = cs y) : x = y := by
  cases x; cases y
  exact congrArg Str.mk (Array.toList_inj.mp h)
theorem cs_to (x : Str) (j : Nat) : cs (Txt.slice x none (some (j : Int))) = (cs x).take j := by
  by_cases h : j <= x.length
  . have := PyProof.Rows.slice_closes_to (x := x) (j := (j : Int)) ⟨by omega, by have := vZ x; unfold cs at this; omega⟩
    have e := eq_of_beq this
    rw [e]
    simp [cs]
  . have e : Txt.slice x none (some (j : Int)) = Txt.slice x none (some (x.length : Int)) := by
      have : Builtin.Str.strSliceIndices none (some (j : Int)) 1 x.length = Builtin.Str.strSliceIndices none (some (x.length : Int)) 1 x.length := by
        have h2 : ¬ ((j : Int) < 0) := by omega
        have h3 : ¬ ((x.length : Int) < 0) := by omega
        have e2 : max (0 : Int) (min (j : Int) (x.length : Int)) = x.length := by omega
        have e3 : max (0 : Int) (min (x.length : Int) (x.length : Int)) = x.length := by omega
        simp only [Builtin.Str.strSliceIndices, sliceRange, h2, h3, if_false, e2, e3, show ((1 : Int) > 0) = True from by simp, if_true]
      unfold Txt.slice
      rw [this]
    rw [e]
    have := PyProof.Rows.slice_closes_to (x := x) (j := (x.length : Int)) ⟨by omega, by have := vZ x; unfold cs at this; omega⟩
    have e := eq_of_beq this
    rw [e]
    have hl := vZ x
    unfold cs at hl ⊢
    simp
    have hs : x.cps.size = x.length := rfl
    omega
theorem cs_from (x : Str) {j : Nat} (h : j <= x.length) : cs (Txt.slice x (some (j : Int)) none) = (cs x).drop j := by
  have := PyProof.Rows.slice_closes_fromL (x := x) (i := (j : Int)) (b := x.length) (by omega) (by omega) rfl
  have e := eq_of_beq this
  rw [e]
  have hl := vZ x
  unfold cs at hl ⊢
  simp
  exact List.take_of_length_le (by rw [List.length_drop, hl]; omega)
theorem fW (sep : Str) : ∀ (y : Str) (r : List Str), cs (Txt.join sep (y :: r)) = cs y ++ r.flatMap fun z => cs sep ++ cs z := by
  intro y r
  show cs (Builtin.Str.glued sep (y :: r)) = _
  rw [StrLaws.glued_eq_join]
  induction r generalizing y with
  | nil => simp [Str.join]
  | cons z r ih =>
    show cs (y ++ sep ++ Str.join sep (z :: r)) = _
    rw [gQ, gQ, ih z, List.flatMap_cons]
    simp only [List.append_assoc]
theorem oZ (x y : Str) : (x ++ y).length = x.length + y.length := by rw [<- vZ, gQ, List.length_append, vZ, vZ]
def Low (x : Str) : Prop := ∀ c ∈ cs x, 97 <= c /\ c <= 122
theorem Low.app {x y : Str} (hx : Low x) (hy : Low y) : Low (x ++ y) := fun c hc => by
  rw [gQ] at hc
  rcases List.mem_append.mp hc with h | h
  . exact hx c h
  . exact hy c h
theorem Low.to {x : Str} (hx : Low x) (j : Nat) : Low (Txt.slice x none (some (j : Int))) := fun c hc => by
  rw [cs_to] at hc
  exact hx c (List.mem_of_mem_take hc)
theorem Low.from {x : Str} (hx : Low x) {j : Nat} (h : j <= x.length) : Low (Txt.slice x (some (j : Int)) none) := fun c hc => by
  rw [cs_from x h] at hc
  exact hx c (List.mem_of_mem_drop hc)
theorem len_to (x : Str) (j : Nat) : (Txt.slice x none (some (j : Int))).length <= j := by
  rw [<- vZ, cs_to, List.length_take]; omega
theorem len_parts (x : Str) {j : Nat} (h : j <= x.length) : (Txt.slice x none (some (j : Int))).length + (Txt.slice x (some (j : Int)) none).length = x.length := by
  rw [<- vZ, <- vZ, cs_to, cs_from x h, List.length_take, List.length_drop, vZ]; omega
theorem Low.one {c : Nat} (h0 : 97 <= c) (h1 : c <= 122) : Low ⟨#[c]⟩ := fun d hd => by
  have : d = c := by simpa [cs] using hd
  omega
theorem kJ (zs : List Str) : (zs.map V.str).all flatV = true := by
  rw [List.all_map]
  exact List.all_eq_true.mpr fun _ _ => rfl
theorem zJ (z : Str) (zs : List Str) : inV (.str z) (zs.map V.str) = decide (z ∈ zs) := by
  unfold inV
  rw [List.any_map]
  rw [Bool.eq_iff_iff, List.any_eq_true, decide_eq_true_iff]
  constructor
  . rintro ⟨y, hy, e⟩
    have e' : (y == z) = true := e
    rw [<- (beq_iff_eq.mp e')]
    exact hy
  . intro h
    exact ⟨z, h, (by show (z == z) = true; exact beq_self_eq_true z)⟩
theorem ndup_le {α : Type} [DecidableEq α] : ∀ {l m : List α}, l.Nodup -> (∀ x ∈ l, x ∈ m) -> l.length <= m.length
  | [], m, _, _ => Nat.zero_le _
  | x :: r, m, hn, h => by
    rw [List.nodup_cons] at hn
    have hx := h x List.mem_cons_self
    have : r.length <= (m.erase x).length := ndup_le hn.2 fun y hy => (List.mem_erase_of_ne (fun e => hn.1 (by rw [<- e]; exact hy))).mpr (h y (List.mem_cons_of_mem _ hy))
    rw [List.length_erase_of_mem hx] at this
    have : 0 < m.length := List.length_pos_of_mem hx
    rw [List.length_cons]; omega
theorem pY {α : Type} [DecidableEq α] {l m : List α} (hn : l.Nodup) (h : m.length < l.length) : ∃ x ∈ l, x ∉ m := by
  apply Classical.byContradiction
  intro hc
  have := ndup_le hn (m := m) fun x hx => Classical.byContradiction fun hm => hc ⟨x, hx, hm⟩
  omega
abbrev abc : Str := "abcdefghijklmnopqrstuvwxyz"
theorem aV : cs abc = List.range' 97 26 := by decide +kernel
theorem abc_at {i c : Nat} (h : (cs abc)[i]? = some c) : 97 <= c /\ c <= 122 := by
  have := List.mem_of_getElem? h
  rw [aV, List.mem_range'_1] at this
  omega
abbrev barred : List Str := ["box", "mark", "ask", "put", "go", "if", "stop", "in", "not"]
structure NameOk (x : Str) : Prop where
  l1 : 1 <= x.length
  l8 : x.length <= 8
  low : Low x
  nb : x ∉ barred
def spLetters : Sp := fun vs H Q _ => ∃ (r : Addr) (many : Int), vs = [.ref r, .int many] /\ PotAt H r /\ 0 <= many /\ many <= 8 /\ ∀ (z : Str) (H' : Hp), (z.length : Int) = many -> Low z -> But r H H' -> PotAt H' r -> Q (.str z) H'
def spOther : Sp := fun vs H Q _ => ∃ (z : Str) (pt : Addr) (ts : List Str), vs = [.str z, .ref pt] /\ H pt = some (.lst (ts.map V.str)) /\ ts.length <= 3 /\ z.length <= 8 /\ Low z /\ ∀ (x : Str) (H' : Hp), NameOk x -> x ∉ ts -> Same H H' -> Q (.str x) H'
def spNames : Sp := fun vs H Q _ => ∃ r : Addr, vs = [.ref r] /\ PotAt H r /\ ∀ (p : Addr) (ts : List Str) (H' : Hp), H p = none -> But r H H' -> PotAt H' r -> H' p = some (.lst (ts.map V.str)) -> ts.length = 4 -> ts.Nodup -> (∀ t ∈ ts, NameOk t) -> Q (.ref p) H'
section
variable {P : Program} {w : World} {K : PySem.W.Frag} {mg : Str -> Option Value} {base : Heap}
theorem scLetters : FnScope ["pot", "many", "letters"] ["pot", "many"] (defScope sLetters) := ⟨rfl, rfl, rfl, by decide +kernel, rfl, by decide +kernel, by decide +kernel⟩
theorem dO (h : Has K mg "_law_letters" sLetters ["pot", "many"]) (B : Blt mg) (cN : Cal P w K mg base 1 "_law_next" ["pot", "many"] spNext) : Cal P w K mg base 2 "_law_letters" ["pot", "many"] spLetters := by
  refine h.cal scLetters (fun vs H Q E h => ?_) (fun f cdv A outer s H vs Q E hr h => ?_)
  . obtain ⟨r, m, rfl, _⟩ := h
    rfl
  obtain ⟨r, many, rfl, hR, m0, m8, q⟩ := h
  refine ⟨_, (dQ (lQ (i := 2) scLetters.nd rfl (Or.inr rfl) oQ)
    (mQ (tQ (yX PySem.F.plainAttrs_str PySem.F.slot_str_join PySem.F.type_str_join xO oQ (aQ (hW (defScope sLetters) ["pot", "many", "letters"] (N := ["k", "letters", "pot"]) (ix := [none, some 2, some 0]) rfl ⟨rfl, by decide +kernel, by decide +kernel, by decide +kernel, rfl, by decide +kernel⟩ (yZ rfl B.range (aQ (pv 1) fQ)) (fun _ _ _ _ => rQ (i := 0) (show (["k", "letters", "pot"] : List Str).Nodup by decide +kernel) rfl (Or.inl rfl)) (fun _ _ _ _ => eJ) (fun _ _ _ _ => (bZ ix_str (pv 1) (nQ cN hr rfl (aQ (pv 2) (aQ iQ fQ))) (fun _ _ => rfl)))) fQ))))), ?_⟩
  wtm_at "ss"
  intro D hD
  have nDr : D ≠ r := hR.nn hD
  refine yK (lo := 0) (n := many.toNat) (fun i ys σ H9 => ∃ (zs : List Str) (c0 : Option V), σ = [c0, some (.str abc), some (.ref r)] /\ ys = zs.map V.str /\ zs.length = i /\ (∀ z ∈ zs, z.length = 1 /\ Low z) /\ H9 D = some (.lst ys) /\ But r H H9 /\ PotAt H9 r)
    ⟨[], none, rfl, rfl, rfl, (fun z hz => nomatch hz), jQ, .new hD _, hR.new hD _⟩ ?_ ?_
  . rintro i ys σ H9 hi ⟨zs, c0, rfl, rfl, hzl, hz, h9, b9, P9⟩
    wtm_at "ss"
    refine ⟨r, 26, rfl, P9, yQ (by decide) (by decide), fun n H10 n0 n1 b10 P10 => ?_⟩
    obtain ⟨k, rfl⟩ := Int.eq_ofNat_of_zero_le n0
    have hk : k < (cs abc).length := by rw [aV, List.length_range']; omega
    have hc := List.getElem?_eq_getElem hk
    generalize (cs abc)[k] = c at hc
    obtain ⟨c1, c2⟩ := abc_at hc
    refine ⟨abc, (k : Nat), c, rfl, rfl, (by decide +kernel : (26 : Nat) <= sizeLine), qZ hc, b10 _ _ nDr h9, small1000 (by rw [List.length_map]; omega), zs ++ [⟨#[c]⟩], _, rfl, by rw [List.map_append]; rfl, by rw [List.length_append, hzl]; rfl, fun z hz' => ?_, jQ, (b9.trans b10).put hD, P10.up nDr.symm⟩
    rcases List.mem_append.mp hz' with h | h
    . exact hz z h
    . rw [List.mem_singleton.mp h]
      exact ⟨rfl, Low.one c1 c2⟩
  rintro ys σ9 H9 ⟨zs, c0, rfl, rfl, hzl, hz, h9, b9, P9⟩
  have sums : ∀ {zs : List Str}, (∀ z ∈ zs, z.length = 1 /\ Low z) -> (zs.map (·.length)).sum = zs.length /\ (zs.flatMap fun z => cs "" ++ cs z).length = zs.length /\ ∀ c ∈ (zs.flatMap fun z => cs "" ++ cs z), 97 <= c /\ c <= 122 := by
    intro zs
    induction zs with
    | nil => intro _; exact ⟨rfl, rfl, fun c hc => nomatch hc⟩
    | cons z r ih =>
      intro h
      obtain ⟨i1, i2, i3⟩ := ih fun y hy => h y (List.mem_cons_of_mem _ hy)
      obtain ⟨z1, z2⟩ := h z List.mem_cons_self
      have e0 : cs "" = [] := rfl
      refine ⟨by rw [List.map_cons, List.sum_cons, i1, z1, List.length_cons]; omega, ?_, ?_⟩
      . rw [List.flatMap_cons, e0, List.nil_append, List.length_append, vZ, z1, List.length_cons, <- i2, e0]; omega
      . intro c hc
        rw [List.flatMap_cons] at hc
        rcases List.mem_append.mp hc with hc | hc
        . rw [e0, List.nil_append] at hc
          exact z2 c hc
        . exact i3 c hc
  obtain ⟨s1, s2, s3⟩ := sums hz
  have ej : cs (Txt.join "" zs) = zs.flatMap fun z => cs "" ++ cs z := by
    cases zs with
    | nil => rfl
    | cons z r =>
      rw [fW, List.flatMap_cons]
      rfl
  refine ⟨"", D, zs, rfl, rfl, SqL.of h9, by rw [s1]; have : (("" : Str)).length = 0 := rfl; rw [this]; omega, q _ _ ?_ ?_ b9 P9⟩
  . rw [<- vZ, ej, s2, hzl]; omega
  . intro c hc
    rw [ej] at hc
    exact s3 c hc
theorem qY {c A B : Prop} [Decidable c] (hc : ¬ c) (h : A) : if (!decide c) = true then A else B := by
  rw [if_pos (by rw [decide_eq_false hc]; rfl)]
  exact h
theorem opNi {X : Cx} (K : PySem.W.Frag) (h : X.K = K := by rfl) : OpR X (compareOp .NotIn) (rIn K true) := by
  subst h
  exact nJ
theorem scOther : FnScope ["stem", "taken", "barred", "some"] ["stem", "taken"] (defScope sOther) := ⟨rfl, rfl, rfl, by decide +kernel, rfl, by decide +kernel, by decide +kernel⟩
theorem abc_nodup : (cs abc).Nodup := by rw [aV]; decide
theorem eO (pre : Str) : ((cs abc).map fun c => pre ++ (⟨#[c]⟩ : Str)).Nodup := by
  have key : ∀ l : List Nat, l.Nodup -> (l.map fun c => pre ++ (⟨#[c]⟩ : Str)).Nodup := by
    intro l
    induction l with
    | nil => intro _; exact .nil
    | cons c r ih =>
      intro h
      obtain ⟨h1, h2⟩ := List.nodup_cons.mp h
      rw [List.map_cons]
      refine List.nodup_cons.mpr ⟨fun z => h1 ?_, ih h2⟩
      obtain ⟨d, hd, e⟩ := List.mem_map.mp z
      have e' := congrArg cs e
      rw [gQ, gQ] at e'
      have e2 : [d] = [c] := List.append_cancel_left e'
      cases e2
      exact hd
  exact key _ abc_nodup
theorem ok_other (h : Has K mg "_law_other" sOther ["stem", "taken"]) (B : Blt mg) : Cal P w K mg base 1 "_law_other" ["stem", "taken"] spOther := by
  refine h.cal scOther (fun vs H Q E h => ?_) (fun f cdv A outer s H vs Q E hr h => ?_)
  . obtain ⟨z, pt, ts, rfl, _⟩ := h
    rfl
  obtain ⟨z, pt, ts, rfl, ht, t3, z8, zl, q⟩ := h
  refine ⟨_, (@dQ _ _ _ _ _ (@lQ _ _ 2 _ _ _ _ scOther.nd rfl (Or.inr rfl) (@kZ _ _ _ _ (@aQ _ _ _ _ _ oQ (@aQ _ _ _ _ _ oQ (@aQ _ _ _ _ _ oQ (@aQ _ _ _ _ _ oQ (@aQ _ _ _ _ _ oQ (@aQ _ _ _ _ _ oQ (@aQ _ _ _ _ _ oQ (@aQ _ _ _ _ _ oQ (@aQ _ _ _ _ _ oQ fQ rfl) rfl) rfl) rfl) rfl) rfl) rfl) rfl) rfl)) rfl (Or.inl rfl))
    (dQ (wZ (PW.pt (pV (wQ rK (pv 0) oQ (nomark _)) (pV (wQ nJ (pv 0) (pv 1) (by with_unfolding_all rfl)) (fV (wQ nJ (pv 0) (pv 2) (by with_unfolding_all rfl)))))) (mQ (tQ (pv 0))) fZ)
    (dQ (ps_lc (i := 3) (defScope sOther) ["stem", "taken", "barred", "some"] (N := ["sign", "stem"]) (ix := [none, some 0]) rfl scOther.nd rfl (Or.inl rfl) ⟨rfl, by decide +kernel, by decide +kernel, by decide +kernel, rfl, by decide +kernel⟩ (pi_str oQ) (fun _ _ _ _ => rQ (i := 0) (show (["sign", "stem"] : List Str).Nodup by decide +kernel) rfl (Or.inl rfl)) (fun _ _ _ _ => eJ) (fun _ _ _ _ => (pQ uQ (tJ aK (pv 1) kW (lW iQ)) (pv 0))))
    (mQ (tQ (bZ vQ (hW (defScope sOther) ["stem", "taken", "barred", "some"] (N := ["one", "taken", "barred"]) (ix := [none, some 1, some 2]) rfl ⟨rfl, by decide +kernel, by decide +kernel, by decide +kernel, rfl, by decide +kernel⟩ (uX (pv 3)) (fun _ _ _ _ => rQ (i := 0) (show (["one", "taken", "barred"] : List Str).Nodup by decide +kernel) rfl (Or.inl rfl)) (fun _ _ _ _ => (oW (PW.pt (pV (wQ (opNi K) (pv 0) (pv 1) (by with_unfolding_all rfl)) (fV (wQ (opNi K) (pv 0) (pv 2) (by with_unfolding_all rfl))))))) (fun _ _ _ _ => (pv 0))) iQ (fun _ _ => rfl))))))), ?_⟩
  refine ⟨(by show 9 <= sizeLine; decide), fun pb hpb => ?_⟩
  have s1 : Same H _ := Same.new hpb (.lst [.str "box", .str "mark", .str "ask", .str "put", .str "go", .str "if", .str "stop", .str "in", .str "not"])
  have hb : upd H pb (.lst [.str "box", .str "mark", .str "ask", .str "put", .str "go", .str "if", .str "stop", .str "in", .str "not"]) pb = some (.lst (barred.map V.str)) := jQ
  have ht1 := s1 _ _ ht
  generalize upd H pb (.lst [.str "box", .str "mark", .str "ask", .str "put", .str "go", .str "if", .str "stop", .str "in", .str "not"]) = H1 at *
  have hpt : Same H H1 := s1
  refine gset (pJ (fun σ' H' => σ' = [some (.str z), some (.ref pt), some (.ref pb), none] /\ H' = H1) (fun R' hR' => ?_) ?_)
  . refine ⟨_, rfl, rfl, _, rfl, ?_⟩
    by_cases e0 : z = ""
    . exact iteNS (by rw [e0]) (iteF (hR' _ _ ⟨rfl, rfl⟩))
    refine qY (fun y => e0 (V.str.inj y)) ?_
    refine ⟨_, rfl, _, rfl, pt, _, rfl, .inl (SqL.of ht1), rfl, kJ ts, _, rfl, ?_⟩
    show if (!inV (V.str z) (ts.map V.str)) = true then _ else _
    rw [zJ]
    by_cases e1 : z ∈ ts
    . exact iteNS e1 (iteF (hR' _ _ ⟨rfl, rfl⟩))
    refine qY e1 ?_
    refine ⟨_, rfl, _, rfl, pb, _, rfl, .inl (SqL.of hb), rfl, kJ barred, _, rfl, ?_⟩
    show if (!inV (V.str z) (barred.map V.str)) = true then _ else _
    rw [zJ]
    by_cases e2 : z ∈ barred
    . exact iteNS e2 (hR' _ _ ⟨rfl, rfl⟩)
    refine qY e2 ⟨_, rfl, q z H1 ⟨?_, z8, zl, e2⟩ e1 s1⟩
    rcases Nat.eq_zero_or_pos z.length with e | e
    . exact absurd (gK (x := z) (y := "") (by
        have : (cs z).length = 0 := by rw [vZ, e]
        rw [List.eq_nil_of_length_eq_zero this]
        rfl)) e0
    . exact e
  rintro σ' H' ⟨rfl, rfl⟩
  obtain ⟨pre, hpre⟩ : ∃ pre, Txt.slice z none (some ((7 : Nat) : Int)) = pre := ⟨_, rfl⟩
  have p7 : pre.length <= 7 := by rw [<- hpre]; exact len_to z 7
  have pl : Low pre := by rw [<- hpre]; exact zl.to 7
  refine ⟨abc, rfl, fun D hD => ?_⟩
  refine lc_str (z := abc) (fun i ys σ H2 => ∃ c0 : Option V, σ = [c0, some (.str z)] /\ ys = ((cs abc).take i).map (fun c => V.str (pre ++ (⟨#[c]⟩ : Str))) /\ H2 D = some (.lst ys) /\ Same H' H2)
    ⟨none, rfl, rfl, jQ, Same.new hD _⟩ ?_ ?_
  . rintro i c ys σ H2 hc ⟨c0, rfl, rfl, h2, s2⟩
    have hc' : (cs abc)[i]? = some c := by rw [<- hc]; exact Array.getElem?_toList
    have hi : ((cs abc).take i).length <= 26 := by rw [List.length_take, aV, List.length_range']; omega
    refine ⟨_, rfl, _, rfl, z, rfl, (small1000 (by omega) |> Nat.le_of_lt), _, rfl, _, _, rfl, rfl, ?_, h2, small1000 (by rw [List.length_map]; omega), _, rfl, ?_, jQ, fun a o e => by rw [sQ (qQ e hD)]; exact s2 _ _ e⟩
    . show (Txt.slice z none (some ((7 : Nat) : Int))).length + 1 <= sizeLine
      rw [hpre]
      exact Nat.le_of_lt (small1000 (by omega))
    . rw [List.take_add_one, hc', List.map_append]
      show _ = _ ++ [V.str (pre ++ _)]
      rw [<- hpre]
      rfl
  rintro ys σ2 H2 ⟨c0, rfl, rfl, h2, s2⟩
  have hsz : (cs abc).take abc.cps.size = cs abc := List.take_of_length_le (by rw [vZ]; exact Nat.le_refl _)
  rw [hsz] at h2
  obtain ⟨ws, hws⟩ : ∃ ws : List Str, (cs abc).map (fun c => pre ++ (⟨#[c]⟩ : Str)) = ws := ⟨_, rfl⟩
  have h2' : H2 D = some (.lst (ws.map V.str)) := by rw [h2, <- hws, List.map_map]; rfl
  have wn : ws.Nodup := by rw [<- hws]; exact eO pre
  have wl : ws.length = 26 := by rw [<- hws, List.length_map, aV, List.length_range']
  have wok : ∀ x ∈ ws, 1 <= x.length /\ x.length <= 8 /\ Low x := fun x hx => by
    rw [<- hws] at hx
    obtain ⟨c, hc, rfl⟩ := List.mem_map.mp hx
    have hc2 : 97 <= c /\ c <= 122 := by rw [aV, List.mem_range'_1] at hc; omega
    refine ⟨?_, ?_, pl.app (Low.one hc2.1 hc2.2)⟩
    . rw [oZ]; show 1 <= pre.length + 1; omega
    . rw [oZ]; show pre.length + 1 <= 8; omega
  refine ⟨_, rfl, D, rfl, ⟨_, SqL.of h2'⟩, fun D2 hD2 => ?_⟩
  refine pW (K := K) (a := D) (xs := ws.map V.str) (fun i ys σ H3 => ∃ c0 : Option V, σ = [c0, some (.ref pt), some (.ref pb)] /\ ys = ((ws.take i).filter fun x => decide (x ∉ ts) && decide (x ∉ barred)).map V.str /\ H3 D2 = some (.lst ys) /\ Same H2 H3)
    ⟨none, rfl, rfl, jQ, Same.new hD2 _⟩ (fun i ys σ H3 _ hh => by obtain ⟨_, _, _, _, e⟩ := hh; exact SqL.of (e _ _ h2')) ?_ ?_
  . rintro i x ys σ H3 hi ⟨c0, rfl, rfl, h3, s3⟩
    rw [List.getElem?_map] at hi
    obtain ⟨wv, hw, rfl⟩ := Option.map_eq_some_iff.mp hi
    have hli : ((ws.take i).filter fun x => decide (x ∉ ts) && decide (x ∉ barred)).length <= 26 := Nat.le_trans (List.length_filter_le ..) (by rw [List.length_take]; omega)
    have pt3 : H3 pt = some (.lst (ts.map V.str)) := s3 _ _ (s2 _ _ ht1)
    have pb3 : H3 pb = some (.lst (barred.map V.str)) := s3 _ _ (s2 _ _ hb)
    have skip : ¬ (wv ∉ ts /\ wv ∉ barred) -> ∃ c1 : Option V, ([some (V.str wv), some (.ref pt), some (.ref pb)] : St) = [c1, some (.ref pt), some (.ref pb)] /\ ((ws.take i).filter fun x => decide (x ∉ ts) && decide (x ∉ barred)).map V.str = ((ws.take (i + 1)).filter fun x => decide (x ∉ ts) && decide (x ∉ barred)).map V.str /\ H3 D2 = some (.lst (((ws.take i).filter fun x => decide (x ∉ ts) && decide (x ∉ barred)).map V.str)) /\ Same H2 H3 := fun hn =>
      ⟨_, rfl, by
        rw [List.take_add_one, hw, List.filter_append]
        have : (decide (wv ∉ ts) && decide (wv ∉ barred)) = false := by
          rw [<- Bool.not_eq_true, Bool.and_eq_true, decide_eq_true_iff, decide_eq_true_iff]; exact hn
        show _ = List.map V.str (_ ++ List.filter _ [wv])
        rw [List.filter_cons_of_neg (by rw [this]; decide), List.filter_nil, List.append_nil], h3, s3⟩
    refine ⟨_, rfl, _, rfl, pt, _, rfl, .inl (SqL.of pt3), rfl, kJ ts, _, rfl, ?_⟩
    show if (!inV (V.str wv) (ts.map V.str)) = true then _ else _
    rw [zJ]
    by_cases e1 : wv ∈ ts
    . exact iteNS e1 (iteF (skip fun z => z.1 e1))
    refine qY e1 ?_
    refine ⟨_, rfl, _, rfl, pb, _, rfl, .inl (SqL.of pb3), rfl, kJ barred, _, rfl, ?_⟩
    show if (!inV (V.str wv) (barred.map V.str)) = true then _ else _
    rw [zJ]
    by_cases e2 : wv ∈ barred
    . exact iteNS e2 (skip fun z => z.2 e2)
    refine qY e2 ⟨_, rfl, h3, small1000 (by rw [List.length_map]; omega), _, rfl, ?_, jQ, fun a o e => by rw [sQ (qQ e hD2)]; exact s3 _ _ e⟩
    rw [List.take_add_one, hw, List.filter_append, List.map_append]
    have : (decide (wv ∉ ts) && decide (wv ∉ barred)) = true := by
      rw [Bool.and_eq_true, decide_eq_true_iff, decide_eq_true_iff]; exact ⟨e1, e2⟩
    show _ = _ ++ List.map V.str (List.filter _ [wv])
    rw [List.filter_cons_of_pos (p := fun x => decide (x ∉ ts) && decide (x ∉ barred)) this, List.filter_nil]
    rfl
  rintro ys σ3 H3 ⟨c0, rfl, rfl, h3, s3⟩
  rw [List.length_map, List.take_length] at h3
  obtain ⟨y, hy, hn⟩ := pY (m := ts ++ barred) wn (by rw [List.length_append, wl]; show ts.length + 9 < 26; omega)
  obtain ⟨x0, r, hx⟩ : ∃ x0 r, (ws.filter fun x => decide (x ∉ ts) && decide (x ∉ barred)) = x0 :: r := by
    cases hf : (ws.filter fun x => decide (x ∉ ts) && decide (x ∉ barred)) with
    | nil =>
      exfalso
      have : y ∈ (ws.filter fun x => decide (x ∉ ts) && decide (x ∉ barred)) := List.mem_filter.mpr ⟨hy, by
        rw [Bool.and_eq_true, decide_eq_true_iff, decide_eq_true_iff]
        exact ⟨fun z => hn (List.mem_append_left _ z), fun z => hn (List.mem_append_right _ z)⟩⟩
      rw [hf] at this
      exact nomatch this
    | cons a b => exact ⟨a, b, rfl⟩
  have hx0 := List.mem_filter.mp (show x0 ∈ (ws.filter fun x => decide (x ∉ ts) && decide (x ∉ barred)) by rw [hx]; exact List.mem_cons_self)
  rw [Bool.and_eq_true, decide_eq_true_iff, decide_eq_true_iff] at hx0
  obtain ⟨w1, w2, w3⟩ := wok x0 hx0.1
  rw [hx] at h3
  exact ⟨D2, _, ((0 : Nat) : Int), .str x0, rfl, rfl, SqL.of h3, qZ rfl, q x0 H3 ⟨w1, w2, w3, hx0.2.2⟩ hx0.2.1 (s1.trans (s2.trans s3))⟩
end
abbrev kinds : List Str := ["rest", "is", "from", "to", "either", "never", "same", "below", "most", "gap", "sum", "adds", "times"]
theorem kinds_low : ∀ x ∈ kinds, x.length <= 8 /\ ∀ c ∈ cs x, 97 <= c /\ c <= 122 := by decide +kernel
structure Nmd (r pw pn : Addr) (ts : List Str) (H H' : Hp) : Prop where
  np : pn ≠ r
  nw : pw ≠ r
  p : H' pn = some (.lst (ts.map V.str))
  w : H' pw = some (.lst (kinds.map V.str))
  b : But r H H'
  P : PotAt H' r
theorem Nmd.but {r pw pn : Addr} {ts : List Str} {H H1 H2 : Hp} (m : Nmd r pw pn ts H H1) (b : But r H1 H2) (P : PotAt H2 r) : Nmd r pw pn ts H H2 := ⟨m.np, m.nw, b _ _ m.np m.p, b _ _ m.nw m.w, m.b.trans b, P⟩
theorem kinds_at {k : Int} (h0 : 0 <= k) (h1 : k < 13) : ∃ x, atI (kinds.map V.str) k = some (.str x) /\ x.length <= 8 /\ Low x := by
  obtain ⟨n, rfl⟩ := Int.eq_ofNat_of_zero_le h0
  have hn : n < kinds.length := by show n < 13; omega
  have hm := List.getElem?_eq_getElem hn
  generalize kinds[n] = x at hm
  refine ⟨x, qZ (by rw [List.getElem?_map, hm]; rfl), kinds_low x (List.mem_of_getElem? hm)⟩
theorem last_at {ts : List Str} (h : 0 < ts.length) : ∃ x ∈ ts, atI (ts.map V.str) (-1) = some (.str x) := by
  obtain ⟨l, x, rfl⟩ : ∃ l x, ts = l ++ [x] := ⟨ts.dropLast, ts.getLast (List.ne_nil_of_length_pos h), (List.dropLast_concat_getLast _).symm⟩
  refine ⟨x, by simp, ?_⟩
  have e : ixN ((l ++ [x]).map V.str).length (-1) = some l.length := by
    unfold ixN
    rw [List.length_map, List.length_append]
    simp
    omega
  unfold atI
  rw [e]
  simp
section
variable {P : Program} {w : World} {K : PySem.W.Frag} {mg : Str -> Option Value} {base : Heap}
theorem scNames : FnScope ["pot", "words", "stem", "names", "k", "way", "name", "at"] ["pot"] (defScope sNames) := ⟨rfl, rfl, rfl, by decide +kernel, rfl, by decide +kernel, by decide +kernel⟩
theorem ok_names (h : Has K mg "_law_names" sNames ["pot"]) (B : Blt mg) (cN : Cal P w K mg base 1 "_law_next" ["pot", "many"] spNext) (cL : Cal P w K mg base 2 "_law_letters" ["pot", "many"] spLetters) (cO : Cal P w K mg base 1 "_law_other" ["stem", "taken"] spOther) : Cal P w K mg base 3 "_law_names" ["pot"] spNames := by
  refine h.cal scNames (fun vs H Q E h => ?_) (fun f cdv A outer s H vs Q E hr h => ?_)
  . obtain ⟨r, rfl, _⟩ := h
    rfl
  obtain ⟨r, rfl, hR, q⟩ := h
  have hr2 : Room 2 _ := hr
  have hr1 : Room 1 _ := hr.mono (by decide)
  refine ⟨_, (@dQ _ _ _ _ _ (@lQ _ _ 1 _ _ _ _ scNames.nd rfl (Or.inl rfl) (@kZ _ _ _ _ (@aQ _ _ _ _ _ oQ (@aQ _ _ _ _ _ oQ (@aQ _ _ _ _ _ oQ (@aQ _ _ _ _ _ oQ (@aQ _ _ _ _ _ oQ (@aQ _ _ _ _ _ oQ (@aQ _ _ _ _ _ oQ (@aQ _ _ _ _ _ oQ (@aQ _ _ _ _ _ oQ (@aQ _ _ _ _ _ oQ (@aQ _ _ _ _ _ oQ (@aQ _ _ _ _ _ oQ (@aQ _ _ _ _ _ oQ fQ rfl) rfl) rfl) rfl) rfl) rfl) rfl) rfl) rfl) rfl) rfl) rfl) rfl)) rfl (Or.inl rfl))
    (dQ (lQ (i := 2) scNames.nd rfl (Or.inl rfl) (nQ cL hr2 rfl (aQ (pv 0) (aQ (nQ cN hr1 rfl (aQ (pv 0) (aQ iQ fQ))) fQ))))
    (dQ (lQ (i := 3) scNames.nd rfl (Or.inl rfl) (kZ fQ))
    (dQ (aX PassesOwn.never rfl (yZ rfl B.range (aQ iQ fQ)) (rQ (i := 4) scNames.nd rfl (Or.inl rfl)) (dQ (lQ (i := 5) scNames.nd rfl (Or.inl rfl) (nQ cN hr1 rfl (aQ (pv 0) (aQ iQ fQ))))
    (dQ (lQ (i := 6) scNames.nd rfl (Or.inl rfl) (pv 2))
    (dQ (wZ (wQ jX (pv 5) iQ (nomark _)) (mQ (lQ (i := 6) scNames.nd rfl (Or.inl rfl) (bZ vQ (pv 1) (nQ cN hr1 rfl (aQ (pv 0) (aQ iQ fQ))) (fun _ _ => rfl)))) fZ)
    (dQ (wZ (wQ jX (pv 5) iQ (nomark _)) (mQ (lQ (i := 6) scNames.nd rfl (Or.inl rfl) (nQ cL hr2 rfl (aQ (pv 0) (aQ (pQ eZ iQ (nQ cN hr1 rfl (aQ (pv 0) (aQ iQ fQ)))) fQ))))) fZ)
    (dQ (wZ (wQ jX (pv 5) iQ (nomark _)) (dQ (lQ (i := 7) scNames.nd rfl (Or.inl rfl) (nQ cN hr1 rfl (aQ (pv 0) (aQ (pQ eZ (cZ xY rfl B.len eX (aQ (pv 2) fQ)) iQ) fQ))))
    (mQ (lQ (i := 6) scNames.nd rfl (Or.inl rfl) (pQ uQ (pQ uQ (tJ aK (pv 2) kW (lW (pv 7))) (nQ cL hr2 rfl (aQ (pv 0) (aQ iQ fQ)))) (tJ aK (pv 2) (lW (pv 7)) kW))))) fZ)
    (dQ (wZ (PW.pt (pV (wQ jX (pv 5) iQ (nomark _)) (fV (wQ op_gt (pv 4) iQ (nomark _))))) (mQ (lQ (i := 6) scNames.nd rfl (Or.inl rfl) (pQ uQ (tJ aK (bZ vQ (pv 3) (gY wW iQ) (fun _ _ => rfl)) kW (lW iQ)) (nQ cL hr2 rfl (aQ (pv 0) (aQ iQ fQ)))))) fZ)
    (mQ (xZ (yX PySem.F.plainAttrs_list PySem.F.slot_list_append PySem.F.type_list_append kX (pv 3) (aQ (nQ cO hr1 rfl (aQ (pv 6) (aQ (pv 3) fQ))) fQ)))))))))))
    (mQ (tQ (pv 3))))))), ?_⟩
  refine ⟨(by show 13 <= sizeLine; decide), fun pw hpw => ?_⟩
  have npw : pw ≠ r := hR.nn hpw
  have b1 : But r H _ := .new hpw (.lst [.str "rest", .str "is", .str "from", .str "to", .str "either", .str "never", .str "same", .str "below", .str "most", .str "gap", .str "sum", .str "adds", .str "times"])
  have P1 := hR.new hpw (.lst [.str "rest", .str "is", .str "from", .str "to", .str "either", .str "never", .str "same", .str "below", .str "most", .str "gap", .str "sum", .str "adds", .str "times"])
  have hw : upd H pw (.lst [.str "rest", .str "is", .str "from", .str "to", .str "either", .str "never", .str "same", .str "below", .str "most", .str "gap", .str "sum", .str "adds", .str "times"]) pw = some (.lst (kinds.map V.str)) := jQ
  generalize upd H pw (.lst [.str "rest", .str "is", .str "from", .str "to", .str "either", .str "never", .str "same", .str "below", .str "most", .str "gap", .str "sum", .str "adds", .str "times"]) = H1 at *
  wtm_at "ss"
  refine ⟨r, 8, rfl, P1, yQ (by decide) (by decide), fun m H2 m0 m1 b2 P2 => ?_⟩
  refine ⟨r, m, rfl, P2, m0, by omega, fun z H3 hz zl b3 P3 => ?_⟩
  have z7 : z.length <= 7 := by omega
  have hw3 := b3 _ _ npw (b2 _ _ npw hw)
  have b13 := b1.trans (b2.trans b3)
  wtm_at "ss"
  refine ⟨(by show 0 <= sizeLine; decide), fun pn hpn => ?_⟩
  have npn : pn ≠ r := P3.nn hpn
  have hpnH : H pn = none := But.none b13 npn hpn
  wtm_at "ss"
  refine fX (lo := 0) (n := 4) (fun i σ H4 => ∃ (ts : List Str) (c4 c5 c6 c7 : Option V), σ = [some (.ref r), some (.ref pw), some (.str z), some (.ref pn), c4, c5, c6, c7] /\ ts.length = i /\ ts.Nodup /\ (∀ t ∈ ts, NameOk t) /\ H4 pn = some (.lst (ts.map V.str)) /\ H4 pw = some (.lst (kinds.map V.str)) /\ But r H H4 /\ PotAt H4 r)
    ⟨[], none, none, none, none, rfl, rfl, .nil, (fun t ht => nomatch ht), jQ, by rw [sQ (qQ hw3 hpn)]; exact hw3, b13.trans (.new hpn _), P3.new hpn _⟩ ?_ ?_
  . rintro i σ H4 hi ⟨ts, c4, c5, c6, c7, rfl, hts, tn, tok, hp4, hw4, b4, P4⟩
    have e0 : (0 + (i : Int)) = (i : Int) := by omega
    rw [e0]
    have N4 : Nmd r pw pn ts H H4 := ⟨npn, npw, hp4, hw4, b4, P4⟩
    wtm_at "ss"
    refine ⟨r, 5, rfl, P4, yQ (by decide) (by decide), fun way H5 w0 w1 b5 P5 => ?_⟩
    have N5 := N4.but b5 P5
    refine gset ⟨_, rfl, gset (pJ (fun σ' H' => ∃ (nm : Str) (c7 : Option V), σ' = [some (.ref r), some (.ref pw), some (.str z), some (.ref pn), some (.int (i : Nat)), some (.int way), some (.str nm), c7] /\ nm.length <= 8 /\ Low nm /\ Nmd r pw pn ts H H') (fun R' hR' => ?_) ?_)⟩
    . refine ⟨_, rfl, rfl, _, rfl, gX (fun _ => ?_) (fun _ => hR' _ _ ⟨z, _, rfl, by omega, zl, N5⟩)⟩
      refine ⟨_, rfl, _, rfl, r, 13, rfl, P5, yQ (by decide) (by decide), fun k H6 k0 k1 b6 P6 => ?_⟩
      have N6 := N5.but b6 P6
      obtain ⟨x, hx, x8, xl⟩ := kinds_at k0 k1
      exact ⟨pw, _, k, _, rfl, rfl, SqL.of N6.w, hx, hR' _ _ ⟨x, _, rfl, x8, xl, N6⟩⟩
    rintro σ' H6 ⟨nm, c7, rfl, m8, ml, N6⟩
    refine pJ (fun σ' H' => ∃ (nm : Str) (c7 : Option V), σ' = [some (.ref r), some (.ref pw), some (.str z), some (.ref pn), some (.int (i : Nat)), some (.int way), some (.str nm), c7] /\ nm.length <= 8 /\ Low nm /\ Nmd r pw pn ts H H') (fun R' hR' => ?_) ?_
    . refine ⟨_, rfl, rfl, _, rfl, gX (fun _ => ?_) (fun _ => hR' _ _ ⟨nm, _, rfl, m8, ml, N6⟩)⟩
      refine ⟨_, rfl, _, rfl, r, 8, rfl, N6.P, yQ (by decide) (by decide), fun k H7 k0 k1 b7 P7 => ?_⟩
      refine ⟨_, _, rfl, rfl, r, 1 + k, rfl, P7, by omega, by omega, fun x H8 xl xw b8 P8 => ?_⟩
      exact hR' _ _ ⟨x, _, rfl, by omega, xw, (N6.but b7 P7).but b8 P8⟩
    rintro σ' H7 ⟨nm, c7, rfl, m8, ml, N7⟩
    refine pJ (fun σ' H' => ∃ (nm : Str) (c7 : Option V), σ' = [some (.ref r), some (.ref pw), some (.str z), some (.ref pn), some (.int (i : Nat)), some (.int way), some (.str nm), c7] /\ nm.length <= 8 /\ Low nm /\ Nmd r pw pn ts H H') (fun R' hR' => ?_) ?_
    . refine ⟨_, rfl, rfl, _, rfl, gX (fun _ => ?_) (fun _ => hR' _ _ ⟨nm, _, rfl, m8, ml, N7⟩)⟩
      refine ⟨_, rfl, _, rfl, z, rfl, Nat.le_of_lt (small1000 (by omega)), _, _, rfl, rfl, r, (z.length : Int) + 1, rfl, N7.P, yQ (by omega) (by omega), fun k H8 k0 k1 b8 P8 => ?_⟩
      obtain ⟨k, rfl⟩ := Int.eq_ofNat_of_zero_le k0
      have hk : k <= z.length := by omega
      have hlp := len_parts z hk
      refine ⟨_, rfl, _, rfl, _, rfl, z, rfl, Nat.le_of_lt (small1000 (by omega)), _, rfl, r, 1, rfl, P8, by decide, by decide, fun x H9 xl xw b9 P9 => ?_⟩
      have x1 : x.length = 1 := by omega
      refine ⟨_, _, rfl, rfl, Nat.le_of_lt (small1000 (by omega)), _, rfl, _, rfl, _, rfl, z, rfl, Nat.le_of_lt (small1000 (by omega)), _, _, rfl, rfl, Nat.le_of_lt (small1000 (by rw [oZ]; omega)), ?_⟩
      exact hR' _ _ ⟨_, _, rfl, by rw [oZ, oZ]; omega, ((zl.to k).app xw).app (zl.from hk), (N7.but b8 P8).but b9 P9⟩
    rintro σ' H8 ⟨nm, c7, rfl, m8, ml, N8⟩
    refine pJ (fun σ' H' => ∃ (nm : Str) (c7 : Option V), σ' = [some (.ref r), some (.ref pw), some (.str z), some (.ref pn), some (.int (i : Nat)), some (.int way), some (.str nm), c7] /\ nm.length <= 8 /\ Low nm /\ Nmd r pw pn ts H H') (fun R' hR' => ?_) ?_
    . have skip := hR' _ _ ⟨nm, c7, rfl, m8, ml, N8⟩
      refine ⟨_, rfl, rfl, _, rfl, gX (fun _ => ?_) (fun _ => iteF skip)⟩
      refine ⟨_, rfl, _, _, rfl, rfl, _, rfl, gX (fun hgt => ?_) (fun _ => skip)⟩
      have h0 : 0 < ts.length := by omega
      obtain ⟨x, hx, ex⟩ := last_at h0
      have ox := tok x hx
      have o8 := ox.l8
      refine ⟨_, rfl, _, rfl, pn, _, -1, _, rfl, rfl, SqL.of N8.p, ex, ?_⟩
      have h7 : (Txt.slice x none (some 7)).length <= 7 := len_to x 7
      have h7l : Low (Txt.slice x none (some 7)) := ox.low.to 7
      refine ⟨_, rfl, x, rfl, Nat.le_of_lt (small1000 (by omega)), _, rfl, r, 1, rfl, N8.P, by decide, by decide, fun y H9 yl yw b9 P9 => ?_⟩
      exact ⟨_, _, rfl, rfl, Nat.le_of_lt (small1000 (by omega)), hR' _ _ ⟨_, _, rfl, by rw [oZ]; omega, h7l.app yw, N8.but b9 P9⟩⟩
    rintro σ' H9 ⟨nm, c7, rfl, m8, ml, N9⟩
    refine ⟨_, rfl, .inl ⟨rfl, _, SqL.of N9.p⟩, _, rfl, _, rfl, nm, pn, ts, rfl, N9.p, by omega, m8, ml, fun x H10 xok xn s10 => ?_⟩
    refine ⟨pn, _, _, rfl, rfl, s10 _ _ N9.p, small1000 (by rw [List.length_map]; omega), ?_⟩
    refine ⟨ts ++ [x], _, _, _, _, rfl, by rw [List.length_append, hts]; rfl, ?_, fun t ht => ?_, by rw [jQ, List.map_append]; rfl, ?_, ?_, (N9.P.mono s10).up npn.symm⟩
    . refine List.nodup_append.mpr ⟨tn, by simp, fun a ha b hb e => ?_⟩
      rw [List.mem_singleton.mp hb] at e
      exact xn (e ▸ ha)
    . rcases List.mem_append.mp ht with h | h
      . exact tok t h
      . rw [List.mem_singleton.mp h]; exact xok
    . rw [sQ (fun z => by
        have h1 := N9.w
        rw [z, N9.p] at h1
        have := congrArg List.length (HO.lst.inj (Option.some.inj h1))
        rw [List.length_map] at this
        have h13 : (kinds.map V.str).length = 13 := rfl
        omega)]
      exact s10 _ _ N9.w
    . exact (N9.b.trans (.of s10)).put hpnH
  rintro σ H4 ⟨ts, c4, c5, c6, c7, rfl, hts, tn, tok, hp4, hw4, b4, P4⟩
  exact ⟨_, rfl, q pn ts H4 hpnH b4 P4 hp4 hts tn tok⟩
end
def Say.form : Say -> List Str
  | .is_ _ _ => ["BOX", "=", "NUMBER"]
  | .frm _ _ => ["BOX", ">=", "NUMBER"]
  | .to_ _ _ => ["BOX", "<=", "NUMBER"]
  | .rest _ _ _ => ["BOX", "rest", "NUMBER", "=", "NUMBER"]
  | .eith _ _ _ => ["BOX", "in", "NUMBER", "NUMBER"]
  | .nev _ _ => ["BOX", "not", "NUMBER"]
  | .same _ _ => ["BOX", "=", "BOX"]
  | .below _ _ => ["BOX", "<", "BOX"]
  | .most _ _ => ["BOX", "<=", "BOX"]
  | .gap _ _ _ => ["BOX", "-", "BOX", "=", "NUMBER"]
  | .sum _ _ _ => ["BOX", "+", "BOX", "=", "NUMBER"]
  | .adds _ _ _ => ["BOX", "+", "BOX", "=", "BOX"]
  | .times _ _ _ => ["BOX", "*", "BOX", "=", "BOX"]
def Say.args : Say -> List Int
  | .is_ a n | .frm a n | .to_ a n | .nev a n => [(a : Int), n]
  | .rest a m r => [(a : Int), m, r]
  | .eith a n k => [(a : Int), n, k]
  | .same a b | .below a b | .most a b => [(a : Int), (b : Int)]
  | .gap a b n | .sum a b n => [(a : Int), (b : Int), n]
  | .adds a b c | .times a b c => [(a : Int), (b : Int), (c : Int)]
def wr (nms : List Str) : List Str -> List Int -> List Str
  | [], _ => []
  | w :: r, xs => if w = "BOX" then nms.getD (xs.headD 0).toNat "" :: wr nms r xs.tail else if w = "NUMBER" then (toString (xs.headD 0) : Str) :: wr nms r xs.tail else w :: wr nms r xs
def okw (m : Nat) : List Str -> List Int -> Prop
  | [], _ => True
  | w :: r, xs => if w = "BOX" then ∃ (k : Nat) (ys : List Int), xs = (k : Int) :: ys /\ k < m /\ okw m r ys else if w = "NUMBER" then ∃ (x : Int) (ys : List Int), xs = x :: ys /\ okw m r ys else okw m r xs
def Say.text (nms : List Str) (s : Say) : Str := Txt.join " " (wr nms s.form s.args)
def writ : List (Str × List Str) := [("is", ["BOX", "=", "NUMBER"]), ("from", ["BOX", ">=", "NUMBER"]), ("to", ["BOX", "<=", "NUMBER"]), ("rest", ["BOX", "rest", "NUMBER", "=", "NUMBER"]), ("either", ["BOX", "in", "NUMBER", "NUMBER"]), ("never", ["BOX", "not", "NUMBER"]), ("same", ["BOX", "=", "BOX"]), ("below", ["BOX", "<", "BOX"]), ("most", ["BOX", "<=", "BOX"]), ("gap", ["BOX", "-", "BOX", "=", "NUMBER"]), ("sum", ["BOX", "+", "BOX", "=", "NUMBER"]), ("adds", ["BOX", "+", "BOX", "=", "BOX"]), ("times", ["BOX", "*", "BOX", "=", "BOX"])]
theorem xV (s : Say) : ∃ z, s.tup = .str z :: s.args.map V.int /\ writ.lookup z = some s.form := by
  cases s <;> exact ⟨_, rfl, rfl⟩
theorem gZ {m k : Nat} {r : List Str} {ys : List Int} (h : k < m) (h2 : okw m r ys) : okw m ("BOX" :: r) ((k : Int) :: ys) := by
  unfold okw
  rw [if_pos rfl]
  exact ⟨k, ys, rfl, h, h2⟩
theorem vX {m : Nat} {x : Int} {r : List Str} {ys : List Int} (h2 : okw m r ys) : okw m ("NUMBER" :: r) (x :: ys) := by
  unfold okw
  rw [if_neg (by decide +kernel : ¬ ("NUMBER" : Str) = "BOX"), if_pos rfl]
  exact ⟨x, ys, rfl, h2⟩
theorem iZ {m : Nat} {w : Str} {r : List Str} {ys : List Int} (h0 : w ≠ "BOX") (h1 : w ≠ "NUMBER") (h2 : okw m r ys) : okw m (w :: r) ys := by
  unfold okw
  rw [if_neg h0, if_neg h1]
  exact h2
theorem okw_say {s : Say} {m : Nat} (h : s.In m) : okw m s.form s.args := by
  cases s with
  | is_ a n => exact gZ h (iZ (by decide +kernel) (by decide +kernel) (vX trivial))
  | frm a n => exact gZ h (iZ (by decide +kernel) (by decide +kernel) (vX trivial))
  | to_ a n => exact gZ h (iZ (by decide +kernel) (by decide +kernel) (vX trivial))
  | nev a n => exact gZ h (iZ (by decide +kernel) (by decide +kernel) (vX trivial))
  | rest a n k => exact gZ h.1 (iZ (by decide +kernel) (by decide +kernel) (vX (iZ (by decide +kernel) (by decide +kernel) (vX trivial))))
  | eith a n k => exact gZ h (iZ (by decide +kernel) (by decide +kernel) (vX (vX trivial)))
  | same a b => exact gZ h.1 (iZ (by decide +kernel) (by decide +kernel) (gZ h.2 trivial))
  | below a b => exact gZ h.1 (iZ (by decide +kernel) (by decide +kernel) (gZ h.2 trivial))
  | most a b => exact gZ h.1 (iZ (by decide +kernel) (by decide +kernel) (gZ h.2 trivial))
  | gap a b n => exact gZ h.1 (iZ (by decide +kernel) (by decide +kernel) (gZ h.2 (iZ (by decide +kernel) (by decide +kernel) (vX trivial))))
  | sum a b n => exact gZ h.1 (iZ (by decide +kernel) (by decide +kernel) (gZ h.2 (iZ (by decide +kernel) (by decide +kernel) (vX trivial))))
  | adds a b c => exact gZ h.1 (iZ (by decide +kernel) (by decide +kernel) (gZ h.2.1 (iZ (by decide +kernel) (by decide +kernel) (gZ h.2.2 trivial))))
  | times a b c => exact gZ h.1 (iZ (by decide +kernel) (by decide +kernel) (gZ h.2.1 (iZ (by decide +kernel) (by decide +kernel) (gZ h.2.2 trivial))))
theorem yV {k : Str} {v : List Str} : ∀ {l : List (Str × List Str)}, l.lookup k = some v -> v ∈ l.map (·.2)
  | [], h => nomatch h
  | (x, y) :: r, h => by
    rw [List.lookup_cons] at h
    cases hx : k == x with
    | true => rw [hx] at h; cases h; exact List.mem_cons_self
    | false => rw [hx] at h; exact List.mem_cons_of_mem _ (yV h)
theorem fO (s : Say) : s.form.length <= 5 /\ ∀ w ∈ s.form, w.length <= 6 := by
  have key : ∀ f ∈ writ.map (·.2), f.length <= 5 /\ ∀ w ∈ f, w.length <= 6 := by decide +kernel
  obtain ⟨z, _, e⟩ := xV s
  exact key _ (yV e)
theorem rW {n : Int} (h0 : -1000 < n) (h1 : n < 1000) : n.natAbs.log2 < 1920 /\ (toString n : Str).length <= 1921 := by
  have h : n.natAbs.log2 < 1920 := Nat.lt_of_le_of_lt (Nat.log2_le_self _) (by omega)
  exact ⟨h, PyProof.Rows.int_text_len_1921 h⟩
def spShown : Sp := fun vs H Q _ => ∃ (pp pb p : Addr) (us : List V) (bs : List Box) (x : V) (s : Say), vs = [.ref pp, .ref p] /\ H pp = some (.tup [.ref pb, x]) /\ BoxesAt H pb us bs /\ H p = some (.tup s.tup) /\ s.In bs.length /\ (∀ x ∈ s.args, -1000 < x /\ x < 1000) /\ (∀ b ∈ bs, b.nm.length <= 8) /\
  ∀ H', Same H H' -> Q (.str (s.text (bs.map Box.nm))) H'
section
variable {P : Program} {w : World} {K : PySem.W.Frag} {mg : Str -> Option Value} {base : Heap}
theorem scShown : FnScope ["program", "saying", "words", "place", "word"] ["program", "saying"] (defScope sPShownSaying) := ⟨rfl, rfl, rfl, by decide +kernel, rfl, by decide +kernel, by decide +kernel⟩
theorem ok_shown (h : Has K mg "shown_saying" sPShownSaying ["program", "saying"]) (B : Blt mg) (gd : Gdb w K mg) : Cal P w K mg base 1 "shown_saying" ["program", "saying"] spShown := by
  refine h.cal scShown (fun vs H Q E h => ?_) (fun f cdv A outer s H vs Q E hr h => ?_)
  . obtain ⟨pp, pb, p, us, bs, x, s, rfl, _⟩ := h
    rfl
  obtain ⟨pp, pb, p, us, bs, x, s, rfl, hpp, X, hp, hin, hsm, hnm, q⟩ := h
  refine ⟨_, (dQ (lQ (i := 2) scShown.nd rfl (Or.inl rfl) (kZ fQ))
    (dQ (lQ (i := 3) scShown.nd rfl (Or.inl rfl) iQ)
    (dQ (aX PassesOwn.never rfl (pi_tup (pe_ggetT rfl gd.WRITTEN (bZ xX (pv 1) iQ (fun _ _ => rfl)) (fun _ _ => rfl))) (rQ (i := 4) scShown.nd rfl (Or.inl rfl)) (mQ (wZ (wQ jX (pv 4) oQ (nomark _)) (dQ (xZ (yX PySem.F.plainAttrs_list PySem.F.slot_list_append PySem.F.type_list_append kX (pv 2) (aQ (bZ xX (bZ vQ (bZ xX (pv 0) iQ (fun _ _ => rfl)) (bZ xX (pv 1) (pv 3) (fun _ _ => rfl)) (fun _ _ => rfl)) iQ (fun _ _ => rfl)) fQ)))
    (mQ (ps_aug (i := 3) scShown.nd rfl (Or.inl rfl) iQ ip_add))) (mQ (wZ (wQ jX (pv 4) oQ (nomark _)) (dQ (xZ (yX PySem.F.plainAttrs_list PySem.F.slot_list_append PySem.F.type_list_append kX (pv 2) (aQ (iJ aJ rfl B.str zU (aQ (bZ xX (pv 1) (pv 3) (fun _ _ => rfl)) fQ)) fQ)))
    (mQ (ps_aug (i := 3) scShown.nd rfl (Or.inl rfl) iQ ip_add))) (mQ (xZ (yX PySem.F.plainAttrs_list PySem.F.slot_list_append PySem.F.type_list_append kX (pv 2) (aQ (pv 4) fQ)))))))))
    (mQ (tQ (yX PySem.F.plainAttrs_str PySem.F.slot_str_join PySem.F.type_str_join xO oQ (aQ (pv 2) fQ))))))), ?_⟩
  obtain ⟨z, etup, elk⟩ := xV s
  rw [etup] at hp
  refine ⟨(by show 0 <= sizeLine; decide), fun pl hpl => ?_⟩
  have s1 := Same.new hpl (.lst [])
  have hl1 : upd H pl (.lst []) pl = some (.lst []) := jQ
  generalize upd H pl (.lst []) = H1 at *
  have hp1 := s1 _ _ hp
  refine ⟨_, rfl, p, _, ((0 : Nat) : Int), _, rfl, rfl, SqT.of hp1, qZ rfl, z, s.form, rfl, elk, fun b hb => ⟨b, rfl, ⟨_, hb _⟩, ?_⟩⟩
  obtain ⟨f5, f6⟩ := fO s
  refine for_tup (K := K) (a := b) (xs := s.form.map V.str) (fun i σ H2 => ∃ (ws : List Str) (pre xs : List Int) (c4 : Option V), σ = [some (.ref pp), some (.ref p), some (.ref pl), some (.int ((pre.length + 1 : Nat) : Int)), c4] /\ s.args = pre ++ xs /\ ws ++ wr (bs.map Box.nm) (s.form.drop i) xs = wr (bs.map Box.nm) s.form s.args /\ okw bs.length (s.form.drop i) xs /\ (ws.map (·.length)).sum <= 2000 * i /\ ws.length = i /\ H2 pl = some (.lst (ws.map V.str)) /\ Same H H2)
    ⟨[], [], s.args, none, rfl, rfl, rfl, okw_say hin, Nat.le_refl _, rfl, hl1, s1⟩ (fun i σ H2 _ _ => hb _) ?_ ?_
  . rintro i x2 σ H2 hi ⟨ws, pre, xs, c4, rfl, ea, ew, ok, hsum, hwl, h2, s2⟩
    rw [List.getElem?_map] at hi
    obtain ⟨wd, hwd, rfl⟩ := Option.map_eq_some_iff.mp hi
    have hil : i < s.form.length := (List.getElem?_eq_some_iff.mp hwd).1
    have ed : s.form.drop i = wd :: s.form.drop (i + 1) := by
      rw [List.drop_eq_getElem_cons hil, (List.getElem?_eq_some_iff.mp hwd).2]
    rw [ed] at ew ok
    have w6 := f6 wd (List.mem_of_getElem? hwd)
    have hp2 := s2 _ _ hp
    have fin : ∀ (y : Str), y.length <= 2000 -> ((ws ++ [y]).map (·.length)).sum <= 2000 * (i + 1) := fun y hy => by
      rw [List.map_append, List.sum_append]
      show _ + (y.length + 0) <= _
      omega
    have put : ∀ (y : Str), Same H (upd H2 pl (.lst (ws.map V.str ++ [.str y]))) := fun y a o e => by rw [sQ (qQ e hpl)]; exact s2 _ _ e
    have sm : (ws.map V.str).length < sizeLine := small1000 (by rw [List.length_map]; omega)
    refine ⟨_, rfl, rfl, _, rfl, gX (fun e => ?_) (fun e => ?_)⟩
    . have e := V.str.inj e
      subst e
      unfold okw at ok
      rw [if_pos rfl] at ok
      obtain ⟨k, ys, rfl, hk, ok⟩ := ok
      obtain ⟨v, bx, hv, hbx, q2, rfl, hq2⟩ := X.each.get hk
      have X2 := X.same s2
      have ax : atI (V.str z :: s.args.map V.int) ((pre.length + 1 : Nat) : Int) = some (.int (k : Int)) := qZ (by rw [List.getElem?_cons_succ, ea, List.map_append, List.getElem?_append_right (by rw [List.length_map]; exact Nat.le_refl _), List.length_map, Nat.sub_self]; rfl)
      have n8 := hnm bx (List.mem_of_getElem? hbx)
      have eg : (bs.map Box.nm).getD k "" = bx.nm := by rw [List.getD_eq_getElem?_getD, List.getElem?_map, hbx]; rfl
      refine ⟨_, rfl, .inl ⟨rfl, _, SqL.of h2⟩, _, rfl, pp, _, ((0 : Nat) : Int), _, rfl, rfl, SqT.of (s2 _ _ hpp), qZ rfl, _, rfl, _, rfl, p, _, _, _, rfl, rfl, SqT.of hp2, ax, pb, _, _, _, rfl, rfl, SqL.of X2.at_, qZ hv, q2, _, ((0 : Nat) : Int), _, rfl, rfl, SqT.of (s2 _ _ hq2), qZ rfl, pl, _, _, rfl, rfl, h2, sm, ?_⟩
      refine ⟨_, rfl, _, _, rfl, rfl, ?_⟩
      have e1 : ((pre.length + 1 : Nat) : Int) + 1 = (((pre ++ [(k : Int)]).length + 1 : Nat) : Int) := by rw [List.length_append]; exact rfl
      refine ⟨ws ++ [bx.nm], pre ++ [(k : Int)], ys, _, by rw [<- e1]; rfl, by rw [ea, List.append_assoc]; rfl, ?_, ok, fin _ (by omega), by rw [List.length_append, hwl]; rfl, by rw [jQ, List.map_append]; rfl, put _⟩
      rw [<- ew]
      show _ = ws ++ wr (bs.map Box.nm) ("BOX" :: s.form.drop (i + 1)) ((k : Int) :: ys)
      conv => rhs; unfold wr
      rw [if_pos rfl, List.append_assoc]
      show ws ++ (bx.nm :: _) = ws ++ ((bs.map Box.nm).getD k "" :: _)
      rw [eg]
      rfl
    have e := fun z => e (congrArg V.str z)
    unfold okw at ok
    rw [if_neg e] at ok
    refine ⟨_, rfl, rfl, _, rfl, gX (fun e2 => ?_) (fun e2 => ?_)⟩
    . have e2 := V.str.inj e2
      subst e2
      rw [if_pos rfl] at ok
      obtain ⟨k, ys, rfl, ok⟩ := ok
      have ax : atI (V.str z :: s.args.map V.int) ((pre.length + 1 : Nat) : Int) = some (.int k) := qZ (by rw [List.getElem?_cons_succ, ea, List.map_append, List.getElem?_append_right (by rw [List.length_map]; exact Nat.le_refl _), List.length_map, Nat.sub_self]; rfl)
      obtain ⟨k0, k1⟩ := hsm k (by rw [ea]; simp)
      obtain ⟨l1, l2⟩ := rW k0 k1
      refine ⟨_, rfl, .inl ⟨rfl, _, SqL.of h2⟩, _, rfl, _, rfl, p, _, _, _, rfl, rfl, SqT.of hp2, ax, k, rfl, l1, pl, _, _, rfl, rfl, h2, sm, ?_⟩
      refine ⟨_, rfl, _, _, rfl, rfl, ?_⟩
      have e1 : ((pre.length + 1 : Nat) : Int) + 1 = (((pre ++ [k]).length + 1 : Nat) : Int) := by rw [List.length_append]; exact rfl
      refine ⟨ws ++ [(toString k : Str)], pre ++ [k], ys, _, by rw [<- e1]; rfl, by rw [ea, List.append_assoc]; rfl, ?_, ok, fin _ (by omega), by rw [List.length_append, hwl]; rfl, by rw [jQ, List.map_append]; rfl, put _⟩
      rw [<- ew]
      show _ = ws ++ wr (bs.map Box.nm) ("NUMBER" :: s.form.drop (i + 1)) (k :: ys)
      conv => rhs; unfold wr
      rw [if_neg e, if_pos rfl, List.append_assoc]
      rfl
    . have e2 := fun z => e2 (congrArg V.str z)
      rw [if_neg e2] at ok
      refine ⟨_, rfl, .inl ⟨rfl, _, SqL.of h2⟩, _, rfl, pl, _, _, rfl, rfl, h2, sm, ?_⟩
      refine ⟨ws ++ [wd], pre, xs, _, rfl, ea, ?_, ok, fin _ (by omega), by rw [List.length_append, hwl]; rfl, by rw [jQ, List.map_append]; rfl, put _⟩
      rw [<- ew]
      show _ = ws ++ wr (bs.map Box.nm) (wd :: s.form.drop (i + 1)) xs
      conv => rhs; unfold wr
      rw [if_neg e, if_neg e2, List.append_assoc]
      rfl
  rintro σ H2 ⟨ws, pre, xs, c4, rfl, ea, ew, ok, hsum, hwl, h2, s2⟩
  rw [List.length_map] at hwl hsum ew
  rw [List.drop_length] at ew
  have ew' : ws = wr (bs.map Box.nm) s.form s.args := by rw [<- ew]; unfold wr; rw [List.append_nil]
  refine ⟨rfl, _, rfl, " ", pl, ws, rfl, rfl, SqL.of h2, ?_, ?_⟩
  . have : ((" " : Str)).length = 1 := rfl
    rw [this]
    omega
  . rw [ew']
    exact q _ s2
end
theorem nX (nms : List Str) (xs : List Int) : wr nms [] xs = [] := rfl
theorem oX {nms : List Str} {r : List Str} {x : Int} {xs : List Int} : wr nms ("BOX" :: r) (x :: xs) = nms.getD x.toNat "" :: wr nms r xs := by
  conv => lhs; unfold wr
  rw [if_pos rfl]
  rfl
theorem pX {nms : List Str} {r : List Str} {x : Int} {xs : List Int} : wr nms ("NUMBER" :: r) (x :: xs) = (toString x : Str) :: wr nms r xs := by
  conv => lhs; unfold wr
  rw [if_neg (by decide +kernel : ¬ ("NUMBER" : Str) = "BOX"), if_pos rfl]
  rfl
theorem lZ {nms : List Str} {w : Str} {r : List Str} {xs : List Int} (h : w ≠ "BOX" /\ w ≠ "NUMBER") : wr nms (w :: r) xs = w :: wr nms r xs := by
  conv => lhs; unfold wr
  rw [if_neg h.1, if_neg h.2]
theorem lit3 : cs " not " = [32, 110, 111, 116, 32] := by decide +kernel
theorem lit6 : cs " " = [32] := by decide +kernel
theorem lit11 : cs "=" = [61] := by decide +kernel
theorem lit12 : cs ">=" = [62, 61] := by decide +kernel
theorem lit13 : cs "<=" = [60, 61] := by decide +kernel
theorem lit14 : cs "not" = [110, 111, 116] := by decide +kernel
theorem lit15 : cs "rest" = [114, 101, 115, 116] := by decide +kernel
theorem lit16 : cs "in" = [105, 110] := by decide +kernel
theorem lit17 : cs "<" = [60] := by decide +kernel
theorem lit18 : cs "-" = [45] := by decide +kernel
theorem lit19 : cs "+" = [43] := by decide +kernel
theorem lit20 : cs "*" = [42] := by decide +kernel
theorem nm_at {nms : List Str} {a : Nat} (h : a < nms.length) : atI (nms.map V.str) ((a : Nat) : Int) = some (.str (nms.getD a "")) := by
  refine qZ ?_
  rw [List.getElem?_map, List.getElem?_eq_getElem h, List.getD_eq_getElem?_getD, List.getElem?_eq_getElem h]
  rfl
def tailL (n : Nat) : List Say := prL .same (rise n) ++ prL .below (unl n) ++ prL .most (unl n) ++ gapL n ++ wpn .sum 40 (rise n) ++ w3 .adds n (rise n) ++ w3 .times n (rise n)
def boxL (bs : List Box) : List Say := wnum .is_ 0 0 bs ++ wnum .frm 1 0 bs ++ wnum .to_ 0 1 bs ++ restL bs ++ eithL bs ++ wnum .nev 0 0 bs
theorem iU (bs : List Box) : sayl bs = boxL bs ++ tailL bs.length := by
  unfold sayl boxL tailL
  simp only [List.append_assoc]
theorem aW {α : Type} {F : Nat -> List α} {n : Nat} {x : α} (h : x ∈ fl F n) : ∃ i, i < n /\ x ∈ F i := by
  obtain ⟨i, hi, hx⟩ := List.mem_flatMap.mp h
  exact ⟨i, List.mem_range.mp hi, hx⟩
theorem jV {mk : Nat -> Int -> Say} {ab be : Int} {bs : List Box} {i : Nat} {o : Say} (h : o ∈ wnumF mk ab be bs i) : ∃ b n, bs[i]? = some b /\ o = mk i n /\ b.lo + ab <= n /\ n <= b.hi - be := by
  unfold wnumF at h
  cases e : bs[i]? with
  | none => rw [e] at h; cases h
  | some b =>
    rw [e] at h
    obtain ⟨n, hn, rfl⟩ := List.mem_map.mp h
    have := uZ.mp hn
    exact ⟨b, n, rfl, rfl, this.1, by omega⟩
theorem rest_at {i : Nat} {o : Say} (h : o ∈ restF i) : ∃ m r, o = .rest i m r /\ 2 <= m /\ m <= 6 /\ 0 <= r /\ r <= m - 1 := by
  obtain ⟨m, hm, hr⟩ := List.mem_flatMap.mp h
  obtain ⟨r, hr', rfl⟩ := List.mem_map.mp hr
  have h1 := uZ.mp hm
  have h2 := uZ.mp hr'
  exact ⟨m, r, rfl, h1.1, by omega, h2.1, by omega⟩
theorem eith_at {bs : List Box} {i : Nat} {o : Say} (h : o ∈ eithF bs i) : ∃ b n k, bs[i]? = some b /\ o = .eith i n k /\ b.lo <= n /\ n <= k - 1 /\ k <= b.hi := by
  unfold eithF at h
  cases e : bs[i]? with
  | none => rw [e] at h; cases h
  | some b =>
    rw [e] at h
    obtain ⟨n, hn, hr⟩ := List.mem_flatMap.mp h
    obtain ⟨k, hk, rfl⟩ := List.mem_map.mp hr
    have h1 := uZ.mp hn
    have h2 := uZ.mp hk
    exact ⟨b, n, k, rfl, rfl, h1.1, by omega, by omega⟩
theorem box_fit {bs : List Box} {s : Say} (h : s ∈ boxL bs) : ∃ b, bs[s.fst]? = some b /\ s.Fit1 b.lo b.hi := by
  unfold boxL at h
  rcases List.mem_append.mp h with h | h
  rcases List.mem_append.mp h with h | h
  rcases List.mem_append.mp h with h | h
  rcases List.mem_append.mp h with h | h
  rcases List.mem_append.mp h with h | h
  . obtain ⟨i, _, hx⟩ := aW h
    obtain ⟨b, n, hb, rfl, f1, f2⟩ := jV hx
    exact ⟨b, hb, by show b.lo <= n /\ n <= b.hi; omega⟩
  . obtain ⟨i, _, hx⟩ := aW h
    obtain ⟨b, n, hb, rfl, f1, f2⟩ := jV hx
    exact ⟨b, hb, by show b.lo < n /\ n <= b.hi; omega⟩
  . obtain ⟨i, _, hx⟩ := aW h
    obtain ⟨b, n, hb, rfl, f1, f2⟩ := jV hx
    exact ⟨b, hb, by show b.lo <= n /\ n < b.hi; omega⟩
  . obtain ⟨i, hi, hx⟩ := aW h
    obtain ⟨m, r, rfl, f⟩ := rest_at hx
    exact ⟨bs[i], List.getElem?_eq_getElem hi, by show 2 <= m /\ m <= 6 /\ 0 <= r /\ r < m; omega⟩
  . obtain ⟨i, hi, hx⟩ := aW h
    obtain ⟨b, n, k, hb, rfl, f⟩ := eith_at hx
    exact ⟨b, hb, by show b.lo <= n /\ n < k /\ k <= b.hi; omega⟩
  . obtain ⟨i, _, hx⟩ := aW h
    obtain ⟨b, n, hb, rfl, f1, f2⟩ := jV hx
    exact ⟨b, hb, by show b.lo <= n /\ n <= b.hi; omega⟩
theorem sW {n : Nat} {x : Nat × Nat} (h : x ∈ rise n) : x.1 < x.2 /\ x.2 < n := by
  obtain ⟨i, hi, hx⟩ := aW h
  obtain ⟨b, hb, rfl⟩ := List.mem_map.mp hx
  have := uZ.mp hb
  exact ⟨by show i < b.toNat; omega, by show b.toNat < n; omega⟩
theorem unl_at {n : Nat} {x : Nat × Nat} (h : x ∈ unl n) : x.1 ≠ x.2 /\ x.1 < n /\ x.2 < n := by
  obtain ⟨i, hi, hx⟩ := aW h
  obtain ⟨b, hb, e⟩ := List.mem_filterMap.mp hx
  have := uZ.mp hb
  split at e
  . cases e
  . rename_i hne
    cases e
    exact ⟨by show i ≠ b.toNat; omega, hi, by show b.toNat < n; omega⟩
theorem wpn_at {mk : Nat -> Nat -> Int -> Say} {w : Int} {prs : List (Nat × Nat)} {o : Say} (h : o ∈ wpn mk w prs) : ∃ x n, x ∈ prs /\ o = mk x.1 x.2 n /\ -w <= n /\ n <= w := by
  obtain ⟨x, hx, ho⟩ := List.mem_flatMap.mp h
  obtain ⟨n, hn, rfl⟩ := List.mem_map.mp ho
  have := uZ.mp hn
  exact ⟨x, n, hx, rfl, this.1, by omega⟩
theorem w3_at {mk : Nat -> Nat -> Nat -> Say} {n : Nat} {prs : List (Nat × Nat)} {o : Say} (h : o ∈ w3 mk n prs) : ∃ x c, x ∈ prs /\ c < n /\ c ≠ x.1 /\ c ≠ x.2 /\ o = mk x.1 x.2 c := by
  obtain ⟨x, hx, ho⟩ := List.mem_flatMap.mp h
  obtain ⟨c, hc, e⟩ := List.mem_filterMap.mp ho
  have := uZ.mp hc
  split at e
  . cases e
  . rename_i hne
    cases e
    exact ⟨x, c.toNat, hx, by omega, fun z => hne (.inl (by omega)), fun z => hne (.inr (by omega)), rfl⟩
theorem tail_fit {n : Nat} {s : Say} (h : s ∈ tailL n) : s.Fit2 n := by
  unfold tailL at h
  rcases List.mem_append.mp h with h | h
  rcases List.mem_append.mp h with h | h
  rcases List.mem_append.mp h with h | h
  rcases List.mem_append.mp h with h | h
  rcases List.mem_append.mp h with h | h
  rcases List.mem_append.mp h with h | h
  . obtain ⟨x, hx, rfl⟩ := List.mem_map.mp h
    exact sW hx
  . obtain ⟨x, hx, rfl⟩ := List.mem_map.mp h
    have := unl_at hx
    exact ⟨this.2.1, this.2.2, this.1⟩
  . obtain ⟨x, hx, rfl⟩ := List.mem_map.mp h
    have := unl_at hx
    exact ⟨this.2.1, this.2.2, this.1⟩
  . obtain ⟨h1, h2⟩ := List.mem_filter.mp h
    obtain ⟨x, n, hx, rfl, f1, f2⟩ := wpn_at h1
    have := sW hx
    refine ⟨this.1, this.2, f1, f2, fun z => ?_⟩
    subst z
    exact absurd h2 (by show ¬ (Say.nz (Say.gap x.1 x.2 0) = true); exact Bool.false_ne_true)
  . obtain ⟨x, n, hx, rfl, f1, f2⟩ := wpn_at h
    have := sW hx
    exact ⟨this.1, this.2, f1, f2⟩
  . obtain ⟨x, c, hx, hc, n1, n2, rfl⟩ := w3_at h
    have := sW hx
    exact ⟨this.1, this.2, hc, n1, n2⟩
  . obtain ⟨x, c, hx, hc, n1, n2, rfl⟩ := w3_at h
    have := sW hx
    exact ⟨this.1, this.2, hc, n1, n2⟩
theorem sayl_of {bs : List Box} {s : Say} (h : s ∈ sayl bs) : s.Of bs := by
  rw [iU] at h
  rcases List.mem_append.mp h with h | h
  . exact .inl (box_fit h)
  . exact .inr (tail_fit h)
theorem jU {α : Type} {F : Nat -> List α} {n i : Nat} {x : α} (hi : i < n) (h : x ∈ F i) : x ∈ fl F n := List.mem_flatMap.mpr ⟨i, List.mem_range.mpr hi, h⟩
theorem lV {mk : Nat -> Int -> Say} {ab be : Int} {bs : List Box} {i : Nat} {b : Box} {n : Int} (hb : bs[i]? = some b) (h0 : b.lo + ab <= n) (h1 : n <= b.hi - be) : mk i n ∈ wnum mk ab be bs :=
  jU (List.getElem?_eq_some_iff.mp hb).1 (by
    unfold wnumF
    rw [hb]
    exact List.mem_map.mpr ⟨n, uZ.mpr ⟨h0, by omega⟩, rfl⟩)
theorem tW {n a b : Nat} (h1 : a < b) (h2 : b < n) : (a, b) ∈ rise n :=
  jU (show a < n by omega) (List.mem_map.mpr ⟨(b : Int), uZ.mpr ⟨by omega, by omega⟩, by rw [Int.toNat_natCast]⟩)
theorem unl_in {n a b : Nat} (h1 : a < n) (h2 : b < n) (hn : a ≠ b) : (a, b) ∈ unl n :=
  jU h1 (List.mem_filterMap.mpr ⟨(b : Int), uZ.mpr ⟨by omega, by omega⟩, by rw [if_neg (by omega), Int.toNat_natCast]⟩)
theorem wpn_in {mk : Nat -> Nat -> Int -> Say} {w n : Int} {prs : List (Nat × Nat)} {a b : Nat} (h : (a, b) ∈ prs) (h0 : -w <= n) (h1 : n <= w) : mk a b n ∈ wpn mk w prs :=
  List.mem_flatMap.mpr ⟨(a, b), h, List.mem_map.mpr ⟨n, uZ.mpr ⟨h0, by omega⟩, rfl⟩⟩
theorem w3_in {mk : Nat -> Nat -> Nat -> Say} {n a b c : Nat} {prs : List (Nat × Nat)} (h : (a, b) ∈ prs) (hc : c < n) (h1 : c ≠ a) (h2 : c ≠ b) : mk a b c ∈ w3 mk n prs :=
  List.mem_flatMap.mpr ⟨(a, b), h, List.mem_filterMap.mpr ⟨(c : Int), uZ.mpr ⟨by omega, by omega⟩, by rw [if_neg (by show ¬ ((c : Int) = (a : Int) \/ (c : Int) = (b : Int)); omega), Int.toNat_natCast]⟩⟩
theorem say_in {bs : List Box} {s : Say} (h : s.Of bs) : s ∈ sayl bs := by
  rw [iU]
  rcases h with ⟨b, hb, h⟩ | h
  . apply List.mem_append_left
    have hl := (List.getElem?_eq_some_iff.mp hb).1
    unfold boxL
    cases s with
    | is_ a n => exact List.mem_append_left _ (List.mem_append_left _ (List.mem_append_left _ (List.mem_append_left _ (List.mem_append_left _ (lV hb (by have := h.1; omega) (by have := h.2; omega))))))
    | frm a n => exact List.mem_append_left _ (List.mem_append_left _ (List.mem_append_left _ (List.mem_append_left _ (List.mem_append_right _ (lV hb (by have := h.1; omega) (by have := h.2; omega))))))
    | to_ a n => exact List.mem_append_left _ (List.mem_append_left _ (List.mem_append_left _ (List.mem_append_right _ (lV hb (by have := h.1; omega) (by have := h.2; omega)))))
    | rest a m r =>
      obtain ⟨m2, m6, r0, rm⟩ := h
      exact List.mem_append_left _ (List.mem_append_left _ (List.mem_append_right _ (jU hl (List.mem_flatMap.mpr ⟨m, uZ.mpr ⟨m2, by omega⟩, List.mem_map.mpr ⟨r, uZ.mpr ⟨r0, by omega⟩, rfl⟩⟩))))
    | eith a n k =>
      obtain ⟨n0, nk, kh⟩ := h
      refine List.mem_append_left _ (List.mem_append_right _ (jU hl ?_))
      unfold eithF
      rw [hb]
      exact List.mem_flatMap.mpr ⟨n, uZ.mpr ⟨n0, by omega⟩, List.mem_map.mpr ⟨k, uZ.mpr ⟨by omega, by omega⟩, rfl⟩⟩
    | nev a n => exact List.mem_append_right _ (lV hb (by have := h.1; omega) (by have := h.2; omega))
    | _ => exact h.elim
  . apply List.mem_append_right
    unfold tailL
    cases s with
    | same a b => exact List.mem_append_left _ (List.mem_append_left _ (List.mem_append_left _ (List.mem_append_left _ (List.mem_append_left _ (List.mem_append_left _ (List.mem_map.mpr ⟨(a, b), tW h.1 h.2, rfl⟩))))))
    | below a b => exact List.mem_append_left _ (List.mem_append_left _ (List.mem_append_left _ (List.mem_append_left _ (List.mem_append_left _ (List.mem_append_right _ (List.mem_map.mpr ⟨(a, b), unl_in h.1 h.2.1 h.2.2, rfl⟩))))))
    | most a b => exact List.mem_append_left _ (List.mem_append_left _ (List.mem_append_left _ (List.mem_append_left _ (List.mem_append_right _ (List.mem_map.mpr ⟨(a, b), unl_in h.1 h.2.1 h.2.2, rfl⟩)))))
    | gap a b n =>
      obtain ⟨h1, h2, h3, h4, h5⟩ := h
      exact List.mem_append_left _ (List.mem_append_left _ (List.mem_append_left _ (List.mem_append_right _ (List.mem_filter.mpr ⟨wpn_in (tW h1 h2) h3 h4, by show (!decide (n = 0)) = true; rw [decide_eq_false h5]; rfl⟩))))
    | sum a b n => exact List.mem_append_left _ (List.mem_append_left _ (List.mem_append_right _ (wpn_in (tW h.1 h.2.1) h.2.2.1 h.2.2.2)))
    | adds a b c => exact List.mem_append_left _ (List.mem_append_right _ (w3_in (tW h.1 h.2.1) h.2.2.1 h.2.2.2.1 h.2.2.2.2))
    | times a b c => exact List.mem_append_right _ (w3_in (tW h.1 h.2.1) h.2.2.1 h.2.2.2.1 h.2.2.2.2)
    | _ => exact h.elim
def no32 (l : List Nat) : Prop := ∀ c ∈ l, c ≠ 32
theorem cut32 : ∀ (y y' A B : List Nat), no32 y -> no32 y' -> (A = [] \/ ∃ t, A = 32 :: t) -> (B = [] \/ ∃ t, B = 32 :: t) -> y ++ A = y' ++ B -> y = y' /\ A = B
  | [], [], A, B, _, _, _, _, h => ⟨rfl, h⟩
  | [], c :: t, A, B, _, h2, hA, _, h => by
    exfalso
    have h : A = c :: (t ++ B) := h
    rcases hA with e | ⟨u, e⟩
    . rw [e] at h; cases h
    . rw [e] at h
      exact h2 c List.mem_cons_self (List.cons.inj h).1.symm
  | c :: t, [], A, B, h1, _, _, hB, h => by
    exfalso
    have h : c :: (t ++ A) = B := h
    rcases hB with e | ⟨u, e⟩
    . rw [e] at h; cases h
    . rw [e] at h
      exact h1 c List.mem_cons_self (List.cons.inj h).1
  | c :: t, d :: u, A, B, h1, h2, hA, hB, h => by
    have h : c :: (t ++ A) = d :: (u ++ B) := h
    obtain ⟨e1, e2⟩ := List.cons.inj h
    obtain ⟨f1, f2⟩ := cut32 t u A B (fun c hc => h1 c (List.mem_cons_of_mem _ hc)) (fun c hc => h2 c (List.mem_cons_of_mem _ hc)) hA hB e2
    exact ⟨by rw [e1, f1], f2⟩
theorem head32 : ∀ (r : List Str), (r.flatMap fun z => cs " " ++ cs z) = [] \/ ∃ t, (r.flatMap fun z => cs " " ++ cs z) = 32 :: t
  | [] => .inl rfl
  | z :: r => .inr ⟨cs z ++ (r.flatMap fun z => cs " " ++ cs z), by rw [List.flatMap_cons, lit6]; rfl⟩
theorem spl : ∀ (r r' : List Str) (y y' : Str), no32 (cs y) -> no32 (cs y') -> (∀ z ∈ r, no32 (cs z)) -> (∀ z ∈ r', no32 (cs z)) -> cs y ++ (r.flatMap fun z => cs " " ++ cs z) = cs y' ++ (r'.flatMap fun z => cs " " ++ cs z) -> y = y' /\ r = r'
  | r, r', y, y', h1, h2, h3, h4, h => by
    obtain ⟨e1, e2⟩ := cut32 _ _ _ _ h1 h2 (head32 r) (head32 r') h
    refine ⟨gK e1, ?_⟩
    cases r with
    | nil =>
      cases r' with
      | nil => rfl
      | cons z' r' =>
        rw [List.flatMap_cons, lit6] at e2
        cases e2
    | cons z r =>
      cases r' with
      | nil =>
        rw [List.flatMap_cons, lit6] at e2
        cases e2
      | cons z' r' =>
        rw [List.flatMap_cons, List.flatMap_cons, lit6] at e2
        have e2 : 32 :: (cs z ++ (r.flatMap fun z => [32] ++ cs z)) = 32 :: (cs z' ++ (r'.flatMap fun z => [32] ++ cs z)) := e2
        have e3 := (List.cons.inj e2).2
        rw [<- lit6] at e3
        obtain ⟨f1, f2⟩ := spl r r' z z' (h3 z List.mem_cons_self) (h4 z' List.mem_cons_self) (fun x hx => h3 x (List.mem_cons_of_mem _ hx)) (fun x hx => h4 x (List.mem_cons_of_mem _ hx)) e3
        rw [f1, f2]
theorem rY {y y' : Str} {r r' : List Str} (h : Txt.join " " (y :: r) = Txt.join " " (y' :: r')) (h1 : ∀ z ∈ y :: r, no32 (cs z)) (h2 : ∀ z ∈ y' :: r', no32 (cs z)) : y :: r = y' :: r' := by
  have e := congrArg cs h
  rw [fW, fW] at e
  obtain ⟨e1, e2⟩ := spl r r' y y' (h1 y List.mem_cons_self) (h2 y' List.mem_cons_self) (fun z hz => h1 z (List.mem_cons_of_mem _ hz)) (fun z hz => h2 z (List.mem_cons_of_mem _ hz)) e
  rw [e1, e2]
def dval (l : List Nat) : Int := l.foldl (fun (a : Int) (c : Nat) => a * 10 + ((c : Int) - 48)) 0
def nval : List Nat -> Int
  | [] => 0
  | c :: r => if c = 45 then -(dval r) else dval (c :: r)
def digs (l : List Nat) : Bool := !l.isEmpty && l.all fun c => c == 45 || (decide (48 <= c) && decide (c <= 57))
theorem num_all : ∀ n ∈ List.range 199, nval (cs (toString ((n : Int) - 99) : Str)) = (n : Int) - 99 /\ digs (cs (toString ((n : Int) - 99) : Str)) = true := by decide +kernel
def Sm (n : Int) : Prop := -100 < n /\ n < 100
theorem uW {n : Int} (h : Sm n) : nval (cs (toString n : Str)) = n /\ digs (cs (toString n : Str)) = true := by
  obtain ⟨h0, h1⟩ := h
  have := num_all (n + 99).toNat (List.mem_range.mpr (by omega))
  have e : (((n + 99).toNat : Nat) : Int) - 99 = n := by omega
  rw [e] at this
  exact this
theorem wX {n m : Int} (hn : Sm n) (hm : Sm m) (h : (toString n : Str) = toString m) : n = m := by
  rw [<- (uW hn).1, <- (uW hm).1, h]
theorem cX {n : Int} (h : Sm n) : no32 (cs (toString n : Str)) := fun c hc e => by
  have := (uW h).2
  unfold digs at this
  rw [Bool.and_eq_true, List.all_eq_true] at this
  have := this.2 c hc
  rw [e] at this
  exact absurd this (by decide)
theorem zV {x : Str} (h : Low x) : no32 (cs x) := fun c hc e => by
  have := h c hc
  omega
theorem kU {n : Int} {x : Str} (h : Sm n) (l : 1 <= x.length) (hx : Low x) : (toString n : Str) ≠ x := fun e => by
  have hd := (uW h).2
  rw [e] at hd
  unfold digs at hd
  rw [Bool.and_eq_true, List.all_eq_true] at hd
  have hl := vZ x
  cases hc : cs x with
  | nil => rw [hc] at hl; simp at hl; omega
  | cons c r =>
    have h1 := hx c (by rw [hc]; exact List.mem_cons_self)
    have h2 := hd.2 c (by rw [hc]; exact List.mem_cons_self)
    simp at h2
    omega
theorem mZ {s : Say} {bs : List Box} (h : s.Of bs) (ok : ∀ b ∈ bs, b.Ok) (l4 : bs.length <= 4) : ∀ x ∈ s.args, Sm x := by
  have hin := h.inn
  intro x hx
  unfold Sm
  rcases h with ⟨b, hb, h⟩ | h
  . have o1 := (ok b (List.mem_of_getElem? hb)).lo
    have o2 := (ok b (List.mem_of_getElem? hb)).hi
    cases s <;> first | exact h.elim | (simp only [Say.args, List.mem_cons, List.not_mem_nil, or_false] at hx; simp only [Say.Fit1, Say.In] at h hin; omega)
  . cases s <;> first | exact h.elim | (simp only [Say.args, List.mem_cons, List.not_mem_nil, or_false] at hx; simp only [Say.Fit2, Say.In] at h hin; omega)
structure Nms (nms : List Str) : Prop where
  nd : nms.Nodup
  ok : ∀ x ∈ nms, NameOk x
theorem Nms.at {nms : List Str} (h : Nms nms) {a : Nat} (ha : a < nms.length) : nms.getD a "" ∈ nms := by
  rw [List.getD_eq_getElem?_getD, List.getElem?_eq_getElem ha]
  exact List.getElem_mem ha
theorem Nms.inj {nms : List Str} (h : Nms nms) {a b : Nat} (ha : a < nms.length) (hb : b < nms.length) (e : nms.getD a "" = nms.getD b "") : a = b := by
  rw [List.getD_eq_getElem?_getD, List.getD_eq_getElem?_getD, List.getElem?_eq_getElem ha, List.getElem?_eq_getElem hb] at e
  have e : nms[a] = nms[b] := e
  have nd := List.pairwise_iff_getElem.mp h.nd
  rcases Nat.lt_trichotomy a b with h1 | h1 | h1
  . exact absurd e (nd a b ha hb h1)
  . exact h1
  . exact absurd e.symm (nd b a hb ha h1)
theorem Nms.no {nms : List Str} (h : Nms nms) {a : Nat} (ha : a < nms.length) : no32 (cs (nms.getD a "")) := zV (h.ok _ (h.at ha)).low
def Say.ws (nms : List Str) : Say -> List Str
  | .is_ a n => [nms.getD a "", "=", (toString n : Str)]
  | .frm a n => [nms.getD a "", ">=", (toString n : Str)]
  | .to_ a n => [nms.getD a "", "<=", (toString n : Str)]
  | .rest a m r => [nms.getD a "", "rest", (toString m : Str), "=", (toString r : Str)]
  | .eith a n k => [nms.getD a "", "in", (toString n : Str), (toString k : Str)]
  | .nev a n => [nms.getD a "", "not", (toString n : Str)]
  | .same a b => [nms.getD a "", "=", nms.getD b ""]
  | .below a b => [nms.getD a "", "<", nms.getD b ""]
  | .most a b => [nms.getD a "", "<=", nms.getD b ""]
  | .gap a b n => [nms.getD a "", "-", nms.getD b "", "=", (toString n : Str)]
  | .sum a b n => [nms.getD a "", "+", nms.getD b "", "=", (toString n : Str)]
  | .adds a b c => [nms.getD a "", "+", nms.getD b "", "=", nms.getD c ""]
  | .times a b c => [nms.getD a "", "*", nms.getD b "", "=", nms.getD c ""]
theorem mV (nms : List Str) (s : Say) : s.text nms = Txt.join " " (s.ws nms) := by
  cases s with
  | is_ a n => rw [Say.text, Say.form, Say.args]; simp only [oX, pX, nX, lZ (nms := nms) (w := "=") (by decide +kernel), Int.toNat_natCast]; rfl
  | frm a n => rw [Say.text, Say.form, Say.args]; simp only [oX, pX, nX, lZ (nms := nms) (w := ">=") (by decide +kernel), Int.toNat_natCast]; rfl
  | to_ a n => rw [Say.text, Say.form, Say.args]; simp only [oX, pX, nX, lZ (nms := nms) (w := "<=") (by decide +kernel), Int.toNat_natCast]; rfl
  | rest a m r => rw [Say.text, Say.form, Say.args]; simp only [oX, pX, nX, lZ (nms := nms) (w := "=") (by decide +kernel), lZ (nms := nms) (w := "rest") (by decide +kernel), Int.toNat_natCast]; rfl
  | eith a n k => rw [Say.text, Say.form, Say.args]; simp only [oX, pX, nX, lZ (nms := nms) (w := "in") (by decide +kernel), Int.toNat_natCast]; rfl
  | nev a n => rw [Say.text, Say.form, Say.args]; simp only [oX, pX, nX, lZ (nms := nms) (w := "not") (by decide +kernel), Int.toNat_natCast]; rfl
  | same a b => rw [Say.text, Say.form, Say.args]; simp only [oX, pX, nX, lZ (nms := nms) (w := "=") (by decide +kernel), Int.toNat_natCast]; rfl
  | below a b => rw [Say.text, Say.form, Say.args]; simp only [oX, pX, nX, lZ (nms := nms) (w := "<") (by decide +kernel), Int.toNat_natCast]; rfl
  | most a b => rw [Say.text, Say.form, Say.args]; simp only [oX, pX, nX, lZ (nms := nms) (w := "<=") (by decide +kernel), Int.toNat_natCast]; rfl
  | gap a b n => rw [Say.text, Say.form, Say.args]; simp only [oX, pX, nX, lZ (nms := nms) (w := "-") (by decide +kernel), lZ (nms := nms) (w := "=") (by decide +kernel), Int.toNat_natCast]; rfl
  | sum a b n => rw [Say.text, Say.form, Say.args]; simp only [oX, pX, nX, lZ (nms := nms) (w := "+") (by decide +kernel), lZ (nms := nms) (w := "=") (by decide +kernel), Int.toNat_natCast]; rfl
  | adds a b c => rw [Say.text, Say.form, Say.args]; simp only [oX, pX, nX, lZ (nms := nms) (w := "+") (by decide +kernel), lZ (nms := nms) (w := "=") (by decide +kernel), Int.toNat_natCast]; rfl
  | times a b c => rw [Say.text, Say.form, Say.args]; simp only [oX, pX, nX, lZ (nms := nms) (w := "*") (by decide +kernel), lZ (nms := nms) (w := "=") (by decide +kernel), Int.toNat_natCast]; rfl
theorem sg_no0 : no32 (cs "*") := by rw [lit20]; exact (by decide : ∀ c ∈ [42], c ≠ 32)
theorem iK : no32 (cs "+") := by rw [lit19]; exact (by decide : ∀ c ∈ [43], c ≠ 32)
theorem sg_no2 : no32 (cs "-") := by rw [lit18]; exact (by decide : ∀ c ∈ [45], c ≠ 32)
theorem sg_no3 : no32 (cs "<") := by rw [lit17]; exact (by decide : ∀ c ∈ [60], c ≠ 32)
theorem jK : no32 (cs "<=") := by rw [lit13]; exact (by decide : ∀ c ∈ [60, 61], c ≠ 32)
theorem fJ : no32 (cs "=") := by rw [lit11]; exact (by decide : ∀ c ∈ [61], c ≠ 32)
theorem sg_no6 : no32 (cs ">=") := by rw [lit12]; exact (by decide : ∀ c ∈ [62, 61], c ≠ 32)
theorem sg_no7 : no32 (cs "in") := by rw [lit16]; exact (by decide : ∀ c ∈ [105, 110], c ≠ 32)
theorem sg_no8 : no32 (cs "not") := by rw [lit14]; exact (by decide : ∀ c ∈ [110, 111, 116], c ≠ 32)
theorem sg_no9 : no32 (cs "rest") := by rw [lit15]; exact (by decide : ∀ c ∈ [114, 101, 115, 116], c ≠ 32)
theorem mem2 {P : Str -> Prop} {x : Str} {r : List Str} (h : P x) (hr : ∀ z ∈ r, P z) : ∀ z ∈ x :: r, P z := fun z hz => by
  rcases List.mem_cons.mp hz with e | e
  . rw [e]; exact h
  . exact hr z e
theorem mem0 {P : Str -> Prop} : ∀ z ∈ ([] : List Str), P z := fun z hz => nomatch hz
theorem ws_no {nms : List Str} (N : Nms nms) {s : Say} (hin : s.In nms.length) (hs : ∀ x ∈ s.args, Sm x) : ∀ z ∈ s.ws nms, no32 (cs z) := by
  cases s with
  | is_ a n => exact mem2 (N.no hin) (mem2 (fJ) (mem2 (cX (hs _ (by simp [Say.args]))) (mem0)))
  | frm a n => exact mem2 (N.no hin) (mem2 (sg_no6) (mem2 (cX (hs _ (by simp [Say.args]))) (mem0)))
  | to_ a n => exact mem2 (N.no hin) (mem2 (jK) (mem2 (cX (hs _ (by simp [Say.args]))) (mem0)))
  | rest a m r => exact mem2 (N.no hin.1) (mem2 (sg_no9) (mem2 (cX (hs _ (by simp [Say.args]))) (mem2 (fJ) (mem2 (cX (hs _ (by simp [Say.args]))) (mem0)))))
  | eith a n k => exact mem2 (N.no hin) (mem2 (sg_no7) (mem2 (cX (hs _ (by simp [Say.args]))) (mem2 (cX (hs _ (by simp [Say.args]))) (mem0))))
  | nev a n => exact mem2 (N.no hin) (mem2 (sg_no8) (mem2 (cX (hs _ (by simp [Say.args]))) (mem0)))
  | same a b => exact mem2 (N.no hin.1) (mem2 (fJ) (mem2 (N.no hin.2) (mem0)))
  | below a b => exact mem2 (N.no hin.1) (mem2 (sg_no3) (mem2 (N.no hin.2) (mem0)))
  | most a b => exact mem2 (N.no hin.1) (mem2 (jK) (mem2 (N.no hin.2) (mem0)))
  | gap a b n => exact mem2 (N.no hin.1) (mem2 (sg_no2) (mem2 (N.no hin.2) (mem2 (fJ) (mem2 (cX (hs _ (by simp [Say.args]))) (mem0)))))
  | sum a b n => exact mem2 (N.no hin.1) (mem2 (iK) (mem2 (N.no hin.2) (mem2 (fJ) (mem2 (cX (hs _ (by simp [Say.args]))) (mem0)))))
  | adds a b c => exact mem2 (N.no hin.1) (mem2 (iK) (mem2 (N.no hin.2.1) (mem2 (fJ) (mem2 (N.no hin.2.2) (mem0)))))
  | times a b c => exact mem2 (N.no hin.1) (mem2 (sg_no0) (mem2 (N.no hin.2.1) (mem2 (fJ) (mem2 (N.no hin.2.2) (mem0)))))
def Say.kn : Say -> Nat
  | .is_ _ _ => 0
  | .frm _ _ => 1
  | .to_ _ _ => 2
  | .rest _ _ _ => 3
  | .eith _ _ _ => 4
  | .nev _ _ => 5
  | .same _ _ => 6
  | .below _ _ => 7
  | .most _ _ => 8
  | .gap _ _ _ => 9
  | .sum _ _ _ => 10
  | .adds _ _ _ => 11
  | .times _ _ _ => 12
def kSign (i : Nat) : Str := (["=", ">=", "<=", "rest", "in", "not", "=", "<", "<=", "-", "+", "+", "*"] : List Str).getD i ""
def kNum (i : Nat) : Bool := ([true, true, true, true, true, true, false, false, false, true, true, false, false] : List Bool).getD i true
theorem lU : ∀ i, i < 13 -> ∀ j, j < 13 -> kSign i = kSign j -> kNum i = kNum j -> i = j := by decide +kernel
theorem kn_lt (s : Say) : s.kn < 13 := by cases s <;> exact Nat.le_of_ble_eq_true rfl
theorem ws_sign (nms : List Str) (s : Say) : (s.ws nms)[1]? = some (kSign s.kn) := by cases s <;> rfl
theorem ws_last {nms : List Str} (N : Nms nms) {s : Say} (hin : s.In nms.length) (hs : ∀ x ∈ s.args, Sm x) : ∃ x, (s.ws nms).getLast? = some x /\ ((kNum s.kn = true /\ ∃ n, Sm n /\ x = toString n) \/ (kNum s.kn = false /\ 1 <= x.length /\ Low x)) := by
  cases s with
  | is_ a n => exact ⟨_, rfl, .inl ⟨rfl, n, hs _ (by simp [Say.args]), rfl⟩⟩
  | frm a n => exact ⟨_, rfl, .inl ⟨rfl, n, hs _ (by simp [Say.args]), rfl⟩⟩
  | to_ a n => exact ⟨_, rfl, .inl ⟨rfl, n, hs _ (by simp [Say.args]), rfl⟩⟩
  | rest a m r => exact ⟨_, rfl, .inl ⟨rfl, r, hs _ (by simp [Say.args]), rfl⟩⟩
  | eith a n k => exact ⟨_, rfl, .inl ⟨rfl, k, hs _ (by simp [Say.args]), rfl⟩⟩
  | nev a n => exact ⟨_, rfl, .inl ⟨rfl, n, hs _ (by simp [Say.args]), rfl⟩⟩
  | same a b => exact ⟨_, rfl, .inr ⟨rfl, (N.ok _ (N.at hin.2)).l1, (N.ok _ (N.at hin.2)).low⟩⟩
  | below a b => exact ⟨_, rfl, .inr ⟨rfl, (N.ok _ (N.at hin.2)).l1, (N.ok _ (N.at hin.2)).low⟩⟩
  | most a b => exact ⟨_, rfl, .inr ⟨rfl, (N.ok _ (N.at hin.2)).l1, (N.ok _ (N.at hin.2)).low⟩⟩
  | gap a b n => exact ⟨_, rfl, .inl ⟨rfl, n, hs _ (by simp [Say.args]), rfl⟩⟩
  | sum a b n => exact ⟨_, rfl, .inl ⟨rfl, n, hs _ (by simp [Say.args]), rfl⟩⟩
  | adds a b c => exact ⟨_, rfl, .inr ⟨rfl, (N.ok _ (N.at hin.2.2)).l1, (N.ok _ (N.at hin.2.2)).low⟩⟩
  | times a b c => exact ⟨_, rfl, .inr ⟨rfl, (N.ok _ (N.at hin.2.2)).l1, (N.ok _ (N.at hin.2.2)).low⟩⟩
theorem ws_inj {nms : List Str} (N : Nms nms) {s t : Say} (hs : s.In nms.length) (ht : t.In nms.length) (ms : ∀ x ∈ s.args, Sm x) (mt : ∀ x ∈ t.args, Sm x) (h : s.ws nms = t.ws nms) : s = t := by
  have hk : s.kn = t.kn := by
    refine lU _ (kn_lt s) _ (kn_lt t) ?_ ?_
    . have := ws_sign nms s
      rw [h, ws_sign nms t] at this
      exact (Option.some.inj this).symm
    . obtain ⟨x, ex, hx⟩ := ws_last N hs ms
      obtain ⟨y, ey, hy⟩ := ws_last N ht mt
      rw [h, ey] at ex
      have e := Option.some.inj ex
      subst e
      rcases hx with ⟨h1, n, hn, e1⟩ | ⟨h1, l1, w1⟩
      . rcases hy with ⟨h2, _⟩ | ⟨h2, l2, w2⟩
        . rw [h1, h2]
        . exact absurd e1.symm (kU hn l2 w2)
      . rcases hy with ⟨h2, n, hn, e2⟩ | ⟨h2, _⟩
        . exact absurd e2.symm (kU hn l1 w1)
        . rw [h1, h2]
  cases s with
  | is_ a n =>
    cases t with
    | is_ a' n' =>
      have e0 : [nms.getD a "", "=", (toString n : Str)] = [nms.getD a' "", "=", (toString n' : Str)] := h
      simp only [List.cons.injEq, and_true, true_and] at e0
      obtain ⟨e1, e2⟩ := e0
      have f1 : a = a' := N.inj hs ht e1
      have f2 : n = n' := wX (ms _ (by simp [Say.args])) (mt _ (by simp [Say.args])) e2
      subst f1 f2
      rfl
    | _ => exact absurd hk (Nat.ne_of_beq_eq_false rfl)
  | frm a n =>
    cases t with
    | frm a' n' =>
      have e0 : [nms.getD a "", ">=", (toString n : Str)] = [nms.getD a' "", ">=", (toString n' : Str)] := h
      simp only [List.cons.injEq, and_true, true_and] at e0
      obtain ⟨e1, e2⟩ := e0
      have f1 : a = a' := N.inj hs ht e1
      have f2 : n = n' := wX (ms _ (by simp [Say.args])) (mt _ (by simp [Say.args])) e2
      subst f1 f2
      rfl
    | _ => exact absurd hk (Nat.ne_of_beq_eq_false rfl)
  | to_ a n =>
    cases t with
    | to_ a' n' =>
      have e0 : [nms.getD a "", "<=", (toString n : Str)] = [nms.getD a' "", "<=", (toString n' : Str)] := h
      simp only [List.cons.injEq, and_true, true_and] at e0
      obtain ⟨e1, e2⟩ := e0
      have f1 : a = a' := N.inj hs ht e1
      have f2 : n = n' := wX (ms _ (by simp [Say.args])) (mt _ (by simp [Say.args])) e2
      subst f1 f2
      rfl
    | _ => exact absurd hk (Nat.ne_of_beq_eq_false rfl)
  | rest a m r =>
    cases t with
    | rest a' m' r' =>
      have e0 : [nms.getD a "", "rest", (toString m : Str), "=", (toString r : Str)] = [nms.getD a' "", "rest", (toString m' : Str), "=", (toString r' : Str)] := h
      simp only [List.cons.injEq, and_true, true_and] at e0
      obtain ⟨e1, e2, e3⟩ := e0
      have f1 : a = a' := N.inj hs.1 ht.1 e1
      have f2 : m = m' := wX (ms _ (by simp [Say.args])) (mt _ (by simp [Say.args])) e2
      have f3 : r = r' := wX (ms _ (by simp [Say.args])) (mt _ (by simp [Say.args])) e3
      subst f1 f2 f3
      rfl
    | _ => exact absurd hk (Nat.ne_of_beq_eq_false rfl)
  | eith a n k =>
    cases t with
    | eith a' n' k' =>
      have e0 : [nms.getD a "", "in", (toString n : Str), (toString k : Str)] = [nms.getD a' "", "in", (toString n' : Str), (toString k' : Str)] := h
      simp only [List.cons.injEq, and_true, true_and] at e0
      obtain ⟨e1, e2, e3⟩ := e0
      have f1 : a = a' := N.inj hs ht e1
      have f2 : n = n' := wX (ms _ (by simp [Say.args])) (mt _ (by simp [Say.args])) e2
      have f3 : k = k' := wX (ms _ (by simp [Say.args])) (mt _ (by simp [Say.args])) e3
      subst f1 f2 f3
      rfl
    | _ => exact absurd hk (Nat.ne_of_beq_eq_false rfl)
  | nev a n =>
    cases t with
    | nev a' n' =>
      have e0 : [nms.getD a "", "not", (toString n : Str)] = [nms.getD a' "", "not", (toString n' : Str)] := h
      simp only [List.cons.injEq, and_true, true_and] at e0
      obtain ⟨e1, e2⟩ := e0
      have f1 : a = a' := N.inj hs ht e1
      have f2 : n = n' := wX (ms _ (by simp [Say.args])) (mt _ (by simp [Say.args])) e2
      subst f1 f2
      rfl
    | _ => exact absurd hk (Nat.ne_of_beq_eq_false rfl)
  | same a b =>
    cases t with
    | same a' b' =>
      have e0 : [nms.getD a "", "=", nms.getD b ""] = [nms.getD a' "", "=", nms.getD b' ""] := h
      simp only [List.cons.injEq, and_true, true_and] at e0
      obtain ⟨e1, e2⟩ := e0
      have f1 : a = a' := N.inj hs.1 ht.1 e1
      have f2 : b = b' := N.inj hs.2 ht.2 e2
      subst f1 f2
      rfl
    | _ => exact absurd hk (Nat.ne_of_beq_eq_false rfl)
  | below a b =>
    cases t with
    | below a' b' =>
      have e0 : [nms.getD a "", "<", nms.getD b ""] = [nms.getD a' "", "<", nms.getD b' ""] := h
      simp only [List.cons.injEq, and_true, true_and] at e0
      obtain ⟨e1, e2⟩ := e0
      have f1 : a = a' := N.inj hs.1 ht.1 e1
      have f2 : b = b' := N.inj hs.2 ht.2 e2
      subst f1 f2
      rfl
    | _ => exact absurd hk (Nat.ne_of_beq_eq_false rfl)
  | most a b =>
    cases t with
    | most a' b' =>
      have e0 : [nms.getD a "", "<=", nms.getD b ""] = [nms.getD a' "", "<=", nms.getD b' ""] := h
      simp only [List.cons.injEq, and_true, true_and] at e0
      obtain ⟨e1, e2⟩ := e0
      have f1 : a = a' := N.inj hs.1 ht.1 e1
      have f2 : b = b' := N.inj hs.2 ht.2 e2
      subst f1 f2
      rfl
    | _ => exact absurd hk (Nat.ne_of_beq_eq_false rfl)
  | gap a b n =>
    cases t with
    | gap a' b' n' =>
      have e0 : [nms.getD a "", "-", nms.getD b "", "=", (toString n : Str)] = [nms.getD a' "", "-", nms.getD b' "", "=", (toString n' : Str)] := h
      simp only [List.cons.injEq, and_true, true_and] at e0
      obtain ⟨e1, e2, e3⟩ := e0
      have f1 : a = a' := N.inj hs.1 ht.1 e1
      have f2 : b = b' := N.inj hs.2 ht.2 e2
      have f3 : n = n' := wX (ms _ (by simp [Say.args])) (mt _ (by simp [Say.args])) e3
      subst f1 f2 f3
      rfl
    | _ => exact absurd hk (Nat.ne_of_beq_eq_false rfl)
  | sum a b n =>
    cases t with
    | sum a' b' n' =>
      have e0 : [nms.getD a "", "+", nms.getD b "", "=", (toString n : Str)] = [nms.getD a' "", "+", nms.getD b' "", "=", (toString n' : Str)] := h
      simp only [List.cons.injEq, and_true, true_and] at e0
      obtain ⟨e1, e2, e3⟩ := e0
      have f1 : a = a' := N.inj hs.1 ht.1 e1
      have f2 : b = b' := N.inj hs.2 ht.2 e2
      have f3 : n = n' := wX (ms _ (by simp [Say.args])) (mt _ (by simp [Say.args])) e3
      subst f1 f2 f3
      rfl
    | _ => exact absurd hk (Nat.ne_of_beq_eq_false rfl)
  | adds a b c =>
    cases t with
    | adds a' b' c' =>
      have e0 : [nms.getD a "", "+", nms.getD b "", "=", nms.getD c ""] = [nms.getD a' "", "+", nms.getD b' "", "=", nms.getD c' ""] := h
      simp only [List.cons.injEq, and_true, true_and] at e0
      obtain ⟨e1, e2, e3⟩ := e0
      have f1 : a = a' := N.inj hs.1 ht.1 e1
      have f2 : b = b' := N.inj hs.2.1 ht.2.1 e2
      have f3 : c = c' := N.inj hs.2.2 ht.2.2 e3
      subst f1 f2 f3
      rfl
    | _ => exact absurd hk (Nat.ne_of_beq_eq_false rfl)
  | times a b c =>
    cases t with
    | times a' b' c' =>
      have e0 : [nms.getD a "", "*", nms.getD b "", "=", nms.getD c ""] = [nms.getD a' "", "*", nms.getD b' "", "=", nms.getD c' ""] := h
      simp only [List.cons.injEq, and_true, true_and] at e0
      obtain ⟨e1, e2, e3⟩ := e0
      have f1 : a = a' := N.inj hs.1 ht.1 e1
      have f2 : b = b' := N.inj hs.2.1 ht.2.1 e2
      have f3 : c = c' := N.inj hs.2.2 ht.2.2 e3
      subst f1 f2 f3
      rfl
    | _ => exact absurd hk (Nat.ne_of_beq_eq_false rfl)
theorem text_inj {nms : List Str} (N : Nms nms) {s t : Say} (hs : s.In nms.length) (ht : t.In nms.length) (ms : ∀ x ∈ s.args, Sm x) (mt : ∀ x ∈ t.args, Sm x) (h : s.text nms = t.text nms) : s = t := by
  refine ws_inj N hs ht ms mt ?_
  rw [mV, mV] at h
  obtain ⟨y, r, e1⟩ : ∃ y r, s.ws nms = y :: r := by cases s <;> exact ⟨_, _, rfl⟩
  obtain ⟨y', r', e2⟩ : ∃ y r, t.ws nms = y :: r := by cases t <;> exact ⟨_, _, rfl⟩
  have n1 := ws_no N hs ms
  have n2 := ws_no N ht mt
  rw [e1] at h n1
  rw [e2] at h n2
  rw [e1, e2]
  exact rY h n1 n2
def spReadX (C : Addr) : Sp := fun vs H Q E => ∃ (pp pb : Addr) (us : List V) (bs : List Box) (x : V) (z : Str), vs = [.ref pp, .str z] /\ H pp = some (.tup [.ref pb, x]) /\ BoxesAt H pb us bs /\ (∀ b ∈ bs, b.Ok) /\ bs.length <= 4 /\ Nms (bs.map Box.nm) /\
  (∀ (s : Say) (p : Addr) (H' : Hp), s.Of bs -> s.text (bs.map Box.nm) = z -> Same H H' -> H' p = some (.tup s.tup) -> Q (.ref p) H') /\ ((∀ s : Say, s.Of bs -> s.text (bs.map Box.nm) ≠ z) -> ∀ H', Same H H' -> E (.ref C) none H')
theorem Sm.wide {x : Int} (h : Sm x) : -1000 < x /\ x < 1000 := by unfold Sm at h; omega
section
variable {P : Program} {w : World} {K : PySem.W.Frag} {mg : Str -> Option Value} {base : Heap}
theorem scRead : FnScope ["program", "text", "saying"] ["program", "text"] (defScope sPReadSaying) := ⟨rfl, rfl, rfl, by decide +kernel, rfl, by decide +kernel, by decide +kernel⟩
theorem ok_readX {C : Addr} {bmB : List Value} {Bn newId initId : String} (h : Has K mg "read_saying" sPReadSaying ["program", "text"]) (cS : Cal P w K mg base 4 "sayings" ["program"] spSayings) (cH : Cal P w K mg base 1 "shown_saying" ["program", "saying"] spShown)
    (O : Exc K mg "NoSaying" C bmB newId) (FB : ExcBaseFacts Bn newId initId bmB) : CalR P w K mg base 5 "read_saying" ["program", "text"] (spReadX C) := by
  refine h.calR scRead (fun vs H Q E h => ?_) (fun f cdv A outer s H vs Q E hr h => ?_)
  . obtain ⟨pp, pb, us, bs, x, z, rfl, _⟩ := h
    rfl
  obtain ⟨pp, pb, us, bs, x, z, rfl, hpp, X, ok, l4, N, q, qe⟩ := h
  have hr4 : Room 4 _ := hr
  have hr1 : Room 1 _ := hr.mono (by decide)
  refine ⟨_, (dQ (PS.nox (aX PassesOwn.never rfl (uX (nQ cS hr4 rfl (aQ (pv 0) fQ))) (rQ (i := 2) scRead.nd rfl (Or.inl rfl)) (mQ (wZ (wQ jX (nQ cH hr1 rfl (aQ (pv 0) (aQ (pv 2) fQ))) (pv 1) (nomark _)) (mQ (tQ (pv 2))) fZ))))
    (mQ (ps_raise raiser_on rfl rfl O FB (aQ oQ fQ)))), ?_⟩
  refine ⟨_, rfl, pp, pb, x, us, bs, rfl, hpp, X, ok, l4, fun pt ut H1 hpt s1 T1 tl => ?_⟩
  have nl : (bs.map Box.nm).length = bs.length := List.length_map _
  have n8 : ∀ b ∈ bs, b.nm.length <= 8 := fun b hb => (N.ok _ (List.mem_map_of_mem hb)).l8
  refine ⟨pt, rfl, ⟨_, SqL.of T1.at_⟩, sJ (K := K) (a := pt) (xs := ut) (fun i σ H2 => (∃ c2 : Option V, σ = [some (.ref pp), some (.str z), c2]) /\ (∀ j t, j < i -> (sayl bs)[j]? = some t -> t.text (bs.map Box.nm) ≠ z) /\ Same H1 H2)
    ⟨⟨none, rfl⟩, fun j t hj => absurd hj (Nat.not_lt_zero j), Same.refl _⟩ (fun i σ H2 _ hh => by obtain ⟨_, _, e⟩ := hh; exact SqL.of (e _ _ T1.at_)) ?_ ?_⟩
  . rintro i v σ H2 hi ⟨⟨c2, rfl⟩, hne, s2⟩
    obtain ⟨t, ht, p, rfl, hp⟩ := T1.each.at hi
    have tof := sayl_of (List.mem_of_getElem? ht)
    have tsm := mZ tof ok l4
    have s02 := s1.trans s2
    refine ⟨_, rfl, _, rfl, pp, pb, p, us, bs, x, t, rfl, s02 _ _ hpp, X.same s02, s2 _ _ hp, tof.inn, (fun y hy => (tsm y hy).wide), n8, fun H3 s3 => ?_⟩
    refine ⟨_, rfl, rfl, _, rfl, gX (fun e => ?_) (fun e => ?_)⟩
    . exact ⟨_, rfl, q t p H3 tof (V.str.inj e) (s02.trans s3) (s3 _ _ (s2 _ _ hp))⟩
    . refine ⟨⟨_, rfl⟩, fun j u hj hu => ?_, s2.trans s3⟩
      rcases Nat.lt_succ_iff_lt_or_eq.mp hj with h1 | h1
      . exact hne j u h1 hu
      . subst h1
        rw [ht] at hu
        cases hu
        intro y
        exact e (by rw [y])
  . rintro σ H2 ⟨_, hne, s2⟩
    refine ⟨(by show 1 <= sizeLine; decide), qe (fun t tof => ?_) H2 (s1.trans s2)⟩
    obtain ⟨j, hj, e⟩ := List.getElem_of_mem (say_in tof)
    exact hne j t (by rw [T1.each.1]; exact hj) (by rw [List.getElem?_eq_getElem hj, e])
end
def fw : List Str -> List Nat
  | [] => []
  | [w] => cs w
  | w :: y :: r => cs w ++ 32 :: fw (y :: r)
theorem kK : ∀ (r : List Str) (w : Str), cs (Txt.join " " (w :: r)) = fw (w :: r)
  | [], w => by rw [fW]; simp [fw]
  | y :: r, w => by
    rw [fW, fw, <- kK r y, fW, List.flatMap_cons, lit6]
    simp
def lowL (l : List Nat) : Bool := !l.isEmpty && l.all fun c => decide (97 <= c) && decide (c <= 122)
def digL (l : List Nat) : Bool := !l.isEmpty && decide (l.length <= 3) && (l.all fun c => decide (48 <= c) && decide (c <= 57)) && (decide (l.length = 1) || l.head? != some 48)
def smL : List Nat -> Bool
  | 45 :: d => digL d && d != [48]
  | d => digL d
def Wd (n : Int) : Prop := -1000 < n /\ n < 1000
theorem wd_all : ∀ n ∈ List.range 1999, smL (cs (toString ((n : Int) - 999) : Str)) = true /\ nval (cs (toString ((n : Int) - 999) : Str)) = (n : Int) - 999 := by decide +kernel
theorem cV {n : Int} (h : Wd n) : smL (cs (toString n : Str)) = true /\ nval (cs (toString n : Str)) = n := by
  unfold Wd at h
  have := wd_all (n + 999).toNat (List.mem_range.mpr (by omega))
  have e : (((n + 999).toNat : Nat) : Int) - 999 = n := by omega
  rwa [e] at this
theorem gJ {n m : Int} (hn : Wd n) (hm : Wd m) (h : (toString n : Str) = toString m) : n = m := by
  have := (cV hn).2
  rw [h, (cV hm).2] at this
  exact this.symm
theorem Sm.wd {n : Int} (h : Sm n) : Wd n := by unfold Sm at h; unfold Wd; omega
theorem lK {l : List Nat} (h : smL l = true) : lowL l = false := by
  cases l with
  | nil => rfl
  | cons c d =>
    have hc : c = 45 \/ (48 <= c /\ c <= 57) := by
      unfold smL at h
      split at h
      . rename_i e; exact .inl (List.cons.inj e).1
      . unfold digL at h
        simp only [List.all_cons, Bool.and_eq_true, decide_eq_true_eq] at h
        exact .inr h.1.2.1
    unfold lowL
    simp only [List.all_cons]
    have : (decide (97 <= c)) = false := decide_eq_false (by omega)
    rw [this]
    simp
theorem mK {x : Str} (h : NameOk x) : lowL (cs x) = true := by
  have h1 := h.l1
  have hl := h.low
  unfold lowL
  rw [Bool.and_eq_true]
  constructor
  . have := vZ x
    cases e : cs x with
    | nil => rw [e] at this; simp at this; omega
    | cons a b => rfl
  . rw [List.all_eq_true]
    intro c hc
    have := hl c hc
    simp [this]
theorem sm_no {l : List Nat} (h : smL l = true) : no32 l := by
  intro c hc e
  subst e
  unfold smL at h
  split at h
  . unfold digL at h
    rcases List.mem_cons.mp hc with e | hm
    . omega
    . simp only [Bool.and_eq_true, List.all_eq_true, decide_eq_true_eq] at h
      have := h.1.1.2 32 hm
      omega
  . unfold digL at h
    simp only [Bool.and_eq_true, List.all_eq_true, decide_eq_true_eq] at h
    have := h.1.2 32 hc
    omega
inductive Kd where
  | li (s : Str) | nm | nu | od | st
def Rk (nms : List Str) : Kd -> Str -> Prop
  | .li s, w => w = s
  | .nm, w => w ∈ nms
  | .nu, w => ∃ n, Wd n /\ w = toString n
  | .od, w => lowL (cs w) = false /\ smL (cs w) = false /\ no32 (cs w)
  | .st, w => w ∉ nms /\ lowL (cs w) = true /\ no32 (cs w)
def cpt (x : Str) (k : Kd) : Bool :=
  if x = "BOX" then (match k with | .li s => lowL (cs s) | .nm => true | _ => false)
  else if x = "NUMBER" then (match k with | .li s => smL (cs s) | .nu => true | _ => false)
  else (match k with | .li s => decide (s = x) | .nu => smL (cs x) | .od => true | _ => lowL (cs x))
def cmps : List Str -> List Kd -> Bool
  | [], [] => true
  | x :: r, k :: q => cpt x k && cmps r q
  | _, _ => false
def rks (nms : List Str) : List Kd -> List Str -> Prop
  | [], [] => True
  | k :: q, w :: r => Rk nms k w /\ rks nms q r
  | _, _ => False
def Fr (nms : List Str) (x w : Str) : Prop := if x = "BOX" then w ∈ nms else if x = "NUMBER" then ∃ n, Sm n /\ w = toString n else w = x
def frs (nms : List Str) : List Str -> List Str -> Prop
  | [], [] => True
  | x :: r, w :: q => Fr nms x w /\ frs nms r q
  | _, _ => False
theorem hJ {nms : List Str} {w : Str} (h : w ∈ nms) : Fr nms "BOX" w := by unfold Fr; rw [if_pos rfl]; exact h
theorem bV {nms : List Str} {n : Int} (h : Sm n) : Fr nms "NUMBER" (toString n) := by unfold Fr; rw [if_neg (by decide +kernel : ¬ ("NUMBER" : Str) = "BOX"), if_pos rfl]; exact ⟨n, h, rfl⟩
theorem bJ {nms : List Str} {x : Str} (h : ¬ x = "BOX" /\ ¬ x = "NUMBER") : Fr nms x x := by unfold Fr; rw [if_neg h.1, if_neg h.2]
theorem frs_say {nms : List Str} (N : Nms nms) {s : Say} (hin : s.In nms.length) (hs : ∀ x ∈ s.args, Sm x) : frs nms s.form (s.ws nms) := by
  cases s with
  | is_ a n | frm a n | to_ a n | nev a n => exact ⟨hJ (N.at hin), bJ (by decide +kernel), bV (hs _ (by simp [Say.args])), trivial⟩
  | rest a m r => exact ⟨hJ (N.at hin.1), bJ (by decide +kernel), bV (hs _ (by simp [Say.args])), bJ (by decide +kernel), bV (hs _ (by simp [Say.args])), trivial⟩
  | eith a m r => exact ⟨hJ (N.at hin), bJ (by decide +kernel), bV (hs _ (by simp [Say.args])), bV (hs _ (by simp [Say.args])), trivial⟩
  | same a b | below a b | most a b => exact ⟨hJ (N.at hin.1), bJ (by decide +kernel), hJ (N.at hin.2), trivial⟩
  | gap a b n | sum a b n => exact ⟨hJ (N.at hin.1), bJ (by decide +kernel), hJ (N.at hin.2), bJ (by decide +kernel), bV (hs _ (by simp [Say.args])), trivial⟩
  | adds a b c | times a b c => exact ⟨hJ (N.at hin.1), bJ (by decide +kernel), hJ (N.at hin.2.1), bJ (by decide +kernel), hJ (N.at hin.2.2), trivial⟩
theorem cpt_of {nms : List Str} (N : Nms nms) {x w : Str} {k : Kd} (h : Fr nms x w) (r : Rk nms k w) : cpt x k = true := by
  unfold Fr at h
  unfold cpt
  by_cases e1 : x = "BOX"
  . rw [if_pos e1] at h ⊢
    have hl := mK (N.ok _ h)
    cases k with
    | li s => have r : w = s := r; rw [<- r]; exact hl
    | nm => rfl
    | nu => obtain ⟨n, hn, e⟩ := r; rw [e, lK (cV hn).1] at hl; exact nomatch hl
    | od => have r := r.1; rw [r] at hl; exact nomatch hl
    | st => exact absurd h r.1
  rw [if_neg e1] at h ⊢
  by_cases e2 : x = "NUMBER"
  . rw [if_pos e2] at h ⊢
    obtain ⟨n, hn, e⟩ := h
    have hs := (cV hn.wd).1
    rw [<- e] at hs
    cases k with
    | li s => have r : w = s := r; rw [<- r]; exact hs
    | nm => have := mK (N.ok _ r); rw [lK hs] at this; exact nomatch this
    | nu => rfl
    | od => have r := r.2.1; rw [r] at hs; exact nomatch hs
    | st => have := r.2.1; rw [lK hs] at this; exact nomatch this
  rw [if_neg e2] at h ⊢
  subst h
  cases k with
  | li s => exact decide_eq_true (Eq.symm r)
  | nm => exact mK (N.ok _ r)
  | nu => obtain ⟨n, hn, e⟩ := r; show smL (cs w) = true; rw [e]; exact (cV hn).1
  | od => rfl
  | st => exact r.2.1
theorem cmps_of {nms : List Str} (N : Nms nms) : ∀ (f ws : List Str) (ks : List Kd), frs nms f ws -> rks nms ks ws -> cmps f ks = true
  | [], [], [], _, _ => rfl
  | [], [], _ :: _, _, h => h.elim
  | [], _ :: _, _, h, _ => h.elim
  | _ :: _, [], _, h, _ => h.elim
  | _ :: _, _ :: _, [], _, h => h.elim
  | x :: r, w :: q, k :: t, h, g => by
    unfold cmps
    rw [cpt_of N h.1 g.1, cmps_of N r q t h.2 g.2]
    rfl
def Kd.no : Kd -> Bool
  | .li s => (cs s).all fun c => c != 32
  | _ => true
theorem Kd.no32 {nms : List Str} (N : Nms nms) {k : Kd} {w : Str} (h : k.no = true) (r : Rk nms k w) : no32 (cs w) := by
  cases k with
  | li s => have r : w = s := r; subst r; intro c hc e; have := List.all_eq_true.mp h c hc; rw [e] at this; exact nomatch this
  | nm => exact zV (N.ok _ r).low
  | nu => obtain ⟨n, hn, e⟩ := r; rw [e]; exact sm_no (cV hn).1
  | od => exact r.2.2
  | st => exact r.2.2
theorem ks_no {nms : List Str} (N : Nms nms) : ∀ (ks : List Kd) (ws : List Str), ks.all Kd.no = true -> rks nms ks ws -> ∀ z ∈ ws, no32 (cs z)
  | [], [], _, _ => fun z hz => nomatch hz
  | [], _ :: _, _, h => h.elim
  | _ :: _, [], _, h => h.elim
  | k :: q, w :: r, h, g => fun z hz => by
    rw [List.all_cons, Bool.and_eq_true] at h
    rcases List.mem_cons.mp hz with e | e
    . rw [e]; exact Kd.no32 N h.1 g.1
    . exact ks_no N q r h.2 g.2 z e
def Bad (bs : List Box) (z : Str) : Prop := ∀ s : Say, s.Of bs -> s.text (bs.map Box.nm) ≠ z
structure Bx (bs : List Box) : Prop where
  N : Nms (bs.map Box.nm)
  ok : ∀ b ∈ bs, b.Ok
  l4 : bs.length <= 4
theorem Bad.of {bs : List Box} (B : Bx bs) {z : Str} (y : Str) (r : List Str) (e : cs z = fw (y :: r)) (hn : ∀ w ∈ y :: r, no32 (cs w)) (h : ∀ s : Say, s.Of bs -> s.ws (bs.map Box.nm) ≠ y :: r) : Bad bs z := by
  intro s of e2
  have nl : (bs.map Box.nm).length = bs.length := List.length_map _
  have hi : s.In (bs.map Box.nm).length := by rw [nl]; exact of.inn
  have n1 := ws_no B.N hi (mZ of B.ok B.l4)
  refine h s of ?_
  obtain ⟨y', r', e1⟩ : ∃ y r, s.ws (bs.map Box.nm) = y :: r := by cases s <;> exact ⟨_, _, rfl⟩
  rw [mV, e1] at e2
  rw [e1] at n1 ⊢
  refine rY (gK ?_) n1 hn
  rw [e2, e, kK]
theorem Bad.ks {bs : List Box} (B : Bx bs) {z : Str} (y : Str) (r : List Str) (ks : List Kd) (e : cs z = fw (y :: r)) (hr : rks (bs.map Box.nm) ks (y :: r)) (h : (ks.all Kd.no && (writ.map (·.2)).all fun f => !cmps f ks) = true) : Bad bs z := by
  rw [Bool.and_eq_true] at h
  refine Bad.of B y r e (ks_no B.N ks _ h.1 hr) fun s of e2 => ?_
  have nl : (bs.map Box.nm).length = bs.length := List.length_map _
  have hi : s.In (bs.map Box.nm).length := by rw [nl]; exact of.inn
  have f1 := frs_say B.N hi (mZ of B.ok B.l4)
  rw [e2] at f1
  have c := cmps_of B.N _ _ _ f1 hr
  obtain ⟨z, _, hz⟩ := xV s
  have := List.all_eq_true.mp h.2 _ (yV hz)
  rw [c] at this
  exact nomatch this
theorem Bx.nm {bs : List Box} (B : Bx bs) {a : Nat} {b : Box} (hb : bs[a]? = some b) : (bs.map Box.nm).getD a "" = b.nm := by rw [List.getD_eq_getElem?_getD, List.getElem?_map, hb]; rfl
theorem Bx.mem {bs : List Box} {a : Nat} {b : Box} (hb : bs[a]? = some b) : b.nm ∈ bs.map Box.nm := List.mem_map_of_mem (List.mem_of_getElem? hb)
theorem Bx.inj {bs : List Box} (B : Bx bs) {a c : Nat} {b : Box} (hb : bs[a]? = some b) (hc : c < bs.length) (e : (bs.map Box.nm).getD c "" = b.nm) : c = a := by
  rw [<- B.nm hb] at e
  have hl := (List.getElem?_eq_some_iff.mp hb).1
  exact B.N.inj (by rw [List.length_map]; exact hc) (by rw [List.length_map]; exact hl) e
theorem Bx.nn {bs : List Box} (B : Bx bs) {c : Nat} {n : Int} (hc : c < bs.length) (hn : Wd n) (e : (bs.map Box.nm).getD c "" = toString n) : False := by
  have h := mK (B.N.ok _ (B.N.at (a := c) (by rw [List.length_map]; exact hc)))
  rw [e, lK (cV hn).1] at h
  exact nomatch h
theorem Bx.no {bs : List Box} (B : Bx bs) {a : Nat} {b : Box} (hb : bs[a]? = some b) : no32 (cs b.nm) := zV (B.N.ok _ (Bx.mem hb)).low
theorem Wd.no {n : Int} (h : Wd n) : no32 (cs (toString n : Str)) := sm_no (cV h).1
theorem q1_ {x : Str} {xs ys : List Str} {y : Str} (e : x :: xs = y :: ys) : x = y := (List.cons.inj e).1
theorem q2_ {x x' : Str} {xs ys : List Str} {y y' : Str} (e : x :: x' :: xs = y :: y' :: ys) : x' = y' := (List.cons.inj (List.cons.inj e).2).1
theorem q3_ {x x' x2 : Str} {xs ys : List Str} {y y' y2 : Str} (e : x :: x' :: x2 :: xs = y :: y' :: y2 :: ys) : x2 = y2 := q2_ (List.cons.inj e).2
theorem q4_ {x x' x2 x3 : Str} {xs ys : List Str} {y y' y2 y3 : Str} (e : x :: x' :: x2 :: x3 :: xs = y :: y' :: y2 :: y3 :: ys) : x3 = y3 := q3_ (List.cons.inj e).2
theorem q5_ {x x' x2 x3 x4 : Str} {xs ys : List Str} {y y' y2 y3 y4 : Str} (e : x :: x' :: x2 :: x3 :: x4 :: xs = y :: y' :: y2 :: y3 :: y4 :: ys) : x4 = y4 := q4_ (List.cons.inj e).2
theorem ql_ {xs ys : List Str} (e : xs = ys) (h : (xs.length == ys.length) = false) : False := by rw [e] at h; simp at h
theorem Of.box {bs : List Box} {s : Say} {a : Nat} {b : Box} (of : s.Of bs) (h1 : s.fst = a) (hb : bs[a]? = some b) (h2 : ¬ s.Fit2 bs.length) : s.Fit1 b.lo b.hi := by
  rcases of with ⟨b', hb', f⟩ | f
  . rw [h1, hb] at hb'; cases hb'; exact f
  . exact absurd f h2
theorem Of.two {bs : List Box} {s : Say} (of : s.Of bs) (h2 : ∀ lo hi, ¬ s.Fit1 lo hi) : s.Fit2 bs.length := by
  rcases of with ⟨b', _, f⟩ | f
  . exact absurd f (h2 _ _)
  . exact f
local macro_rules | `(tactic| wtm_at "x") => `(tactic| first | exact ql_ ‹_ = _› rfl | exact absurd (q2_ ‹_ = _›) (by decide +kernel) | (have hn0 := ‹Say.In _ _›; first | exact Bx.nn ‹Bx _› hn0.2 ‹Wd _› (q3_ ‹_ = _›) | exact Bx.nn ‹Bx _› hn0.2.2 ‹Wd _› (q5_ ‹_ = _›)))
section
variable {bs : List Box} {z : Str} {a c d : Nat} {b b' b2 : Box} {n m : Int}
theorem no3 (B : Bx bs) (hb : bs[a]? = some b) (o : Str) (ho : no32 (cs o)) {x : Str} (hx : no32 (cs x)) : ∀ w ∈ [b.nm, o, x], no32 (cs w) := mem2 (B.no hb) (mem2 ho (mem2 hx mem0))
theorem no5 (B : Bx bs) (hb : bs[a]? = some b) (o : Str) (ho : no32 (cs o)) {x y : Str} (hx : no32 (cs x)) (hy : no32 (cs y)) : ∀ w ∈ [b.nm, o, x, "=", y], no32 (cs w) := mem2 (B.no hb) (mem2 ho (mem2 hx (mem2 fJ (mem2 hy mem0))))
theorem bd_is (B : Bx bs) (hb : bs[a]? = some b) (hn : Wd n) (e : cs z = fw [b.nm, "=", toString n]) (h : ¬ (b.lo <= n /\ n <= b.hi)) : Bad bs z := by
  refine Bad.of B _ _ e (no3 B hb _ fJ hn.no) fun s of e2 => ?_
  have hin := of.inn
  have hs := mZ of B.ok B.l4
  cases s with
  | is_ a' n' =>
    obtain rfl := B.inj hb hin (q1_ e2)
    have := Of.box of rfl hb id
    obtain rfl := gJ (hs n' (by simp [Say.args])).wd hn (q3_ e2)
    exact h this
  | _ => wtm_at "x"
theorem gO (B : Bx bs) (hb : bs[a]? = some b) (hn : Wd n) (e : cs z = fw [b.nm, "not", toString n]) (h : ¬ (b.lo <= n /\ n <= b.hi)) : Bad bs z := by
  refine Bad.of B _ _ e (no3 B hb _ sg_no8 hn.no) fun s of e2 => ?_
  have hin := of.inn
  have hs := mZ of B.ok B.l4
  cases s with
  | nev a' n' =>
    obtain rfl := B.inj hb hin (q1_ e2)
    have := Of.box of rfl hb id
    obtain rfl := gJ (hs n' (by simp [Say.args])).wd hn (q3_ e2)
    exact h this
  | _ => wtm_at "x"
theorem bd_frm (B : Bx bs) (hb : bs[a]? = some b) (hn : Wd n) (e : cs z = fw [b.nm, ">=", toString n]) (h : ¬ (b.lo < n /\ n <= b.hi)) : Bad bs z := by
  refine Bad.of B _ _ e (no3 B hb _ sg_no6 hn.no) fun s of e2 => ?_
  have hin := of.inn
  have hs := mZ of B.ok B.l4
  cases s with
  | frm a' n' =>
    obtain rfl := B.inj hb hin (q1_ e2)
    have := Of.box of rfl hb id
    obtain rfl := gJ (hs n' (by simp [Say.args])).wd hn (q3_ e2)
    exact h this
  | _ => wtm_at "x"
theorem bd_to (B : Bx bs) (hb : bs[a]? = some b) (hn : Wd n) (e : cs z = fw [b.nm, "<=", toString n]) (h : ¬ (b.lo <= n /\ n < b.hi)) : Bad bs z := by
  refine Bad.of B _ _ e (no3 B hb _ jK hn.no) fun s of e2 => ?_
  have hin := of.inn
  have hs := mZ of B.ok B.l4
  cases s with
  | to_ a' n' =>
    obtain rfl := B.inj hb hin (q1_ e2)
    have := Of.box of rfl hb id
    obtain rfl := gJ (hs n' (by simp [Say.args])).wd hn (q3_ e2)
    exact h this
  | _ => wtm_at "x"
theorem gW (B : Bx bs) (hb : bs[a]? = some b) (hm : Wd m) (hn : Wd n) (e : cs z = fw [b.nm, "rest", toString m, "=", toString n]) (h : ¬ (2 <= m /\ m <= 6 /\ 0 <= n /\ n < m)) : Bad bs z := by
  refine Bad.of B _ _ e (no5 B hb _ sg_no9 hm.no hn.no) fun s of e2 => ?_
  have hin := of.inn
  have hs := mZ of B.ok B.l4
  cases s with
  | rest a' m' n' =>
    obtain rfl := B.inj hb hin.1 (q1_ e2)
    have := Of.box of rfl hb id
    obtain rfl := gJ (hs m' (by simp [Say.args])).wd hm (q3_ e2)
    obtain rfl := gJ (hs n' (by simp [Say.args])).wd hn (q5_ e2)
    exact h this
  | _ => wtm_at "x"
theorem bd_in (B : Bx bs) (hb : bs[a]? = some b) (hm : Wd m) (hn : Wd n) (e : cs z = fw [b.nm, "in", toString m, toString n]) (h : ¬ (b.lo <= m /\ m < n /\ n <= b.hi)) : Bad bs z := by
  refine Bad.of B _ _ e (mem2 (B.no hb) (mem2 sg_no7 (mem2 hm.no (mem2 hn.no mem0)))) fun s of e2 => ?_
  have hin := of.inn
  have hs := mZ of B.ok B.l4
  cases s with
  | eith a' m' n' =>
    obtain rfl := B.inj hb hin (q1_ e2)
    have := Of.box of rfl hb id
    obtain rfl := gJ (hs m' (by simp [Say.args])).wd hm (q3_ e2)
    obtain rfl := gJ (hs n' (by simp [Say.args])).wd hn (q4_ e2)
    exact h this
  | _ => wtm_at "x"
theorem bd_same (B : Bx bs) (hb : bs[a]? = some b) (hc : bs[c]? = some b') (e : cs z = fw [b.nm, "=", b'.nm]) (h : ¬ a < c) : Bad bs z := by
  refine Bad.of B _ _ e (no3 B hb _ fJ (B.no hc)) fun s of e2 => ?_
  have hin := of.inn
  have hs := mZ of B.ok B.l4
  cases s with
  | same a' c' =>
    obtain rfl := B.inj hb hin.1 (q1_ e2)
    obtain rfl := B.inj hc hin.2 (q3_ e2)
    exact h (Of.two of fun _ _ => id).1
  | is_ a' n' => exact Bx.nn B (List.getElem?_eq_some_iff.mp hc).1 (hs n' (by simp [Say.args])).wd ((B.nm hc).trans (q3_ e2).symm)
  | _ => wtm_at "x"
theorem bd_below (B : Bx bs) (hb : bs[a]? = some b) (e : cs z = fw [b.nm, "<", b.nm]) : Bad bs z := by
  refine Bad.of B _ _ e (no3 B hb _ sg_no3 (B.no hb)) fun s of e2 => ?_
  have hin := of.inn
  have hs := mZ of B.ok B.l4
  cases s with
  | below a' c' =>
    obtain rfl := B.inj hb hin.1 (q1_ e2)
    obtain rfl := B.inj hb hin.2 (q3_ e2)
    exact (Of.two of fun _ _ => id).2.2 rfl
  | _ => wtm_at "x"
theorem bd_most (B : Bx bs) (hb : bs[a]? = some b) (e : cs z = fw [b.nm, "<=", b.nm]) : Bad bs z := by
  refine Bad.of B _ _ e (no3 B hb _ jK (B.no hb)) fun s of e2 => ?_
  have hin := of.inn
  have hs := mZ of B.ok B.l4
  have hc := hb
  cases s with
  | most a' c' =>
    obtain rfl := B.inj hb hin.1 (q1_ e2)
    obtain rfl := B.inj hb hin.2 (q3_ e2)
    exact (Of.two of fun _ _ => id).2.2 rfl
  | to_ a' n' => exact Bx.nn B (List.getElem?_eq_some_iff.mp hb).1 (hs n' (by simp [Say.args])).wd ((B.nm hb).trans (q3_ e2).symm)
  | _ => wtm_at "x"
theorem aY (B : Bx bs) (hb : bs[a]? = some b) (hc : bs[c]? = some b') (hn : Wd n) (e : cs z = fw [b.nm, "-", b'.nm, "=", toString n]) (h : ¬ (a < c /\ -20 <= n /\ n <= 20 /\ n ≠ 0)) : Bad bs z := by
  refine Bad.of B _ _ e (no5 B hb _ sg_no2 (B.no hc) hn.no) fun s of e2 => ?_
  have hin := of.inn
  have hs := mZ of B.ok B.l4
  cases s with
  | gap a' c' n' =>
    obtain rfl := B.inj hb hin.1 (q1_ e2)
    obtain rfl := B.inj hc hin.2 (q3_ e2)
    obtain rfl := gJ (hs n' (by simp [Say.args])).wd hn (q5_ e2)
    have f := Of.two of fun _ _ => id
    exact h ⟨f.1, f.2.2⟩
  | _ => wtm_at "x"
theorem bY (B : Bx bs) (hb : bs[a]? = some b) (hc : bs[c]? = some b') (hn : Wd n) (e : cs z = fw [b.nm, "+", b'.nm, "=", toString n]) (h : ¬ (a < c /\ -40 <= n /\ n <= 40)) : Bad bs z := by
  refine Bad.of B _ _ e (no5 B hb _ iK (B.no hc) hn.no) fun s of e2 => ?_
  have hin := of.inn
  have hs := mZ of B.ok B.l4
  cases s with
  | sum a' c' n' =>
    obtain rfl := B.inj hb hin.1 (q1_ e2)
    obtain rfl := B.inj hc hin.2 (q3_ e2)
    obtain rfl := gJ (hs n' (by simp [Say.args])).wd hn (q5_ e2)
    have f := Of.two of fun _ _ => id
    exact h ⟨f.1, f.2.2⟩
  | _ => wtm_at "x"
theorem bd_adds (B : Bx bs) (hb : bs[a]? = some b) (hc : bs[c]? = some b') (hd : bs[d]? = some b2) (e : cs z = fw [b.nm, "+", b'.nm, "=", b2.nm]) (h : ¬ (a < c /\ d ≠ a /\ d ≠ c)) : Bad bs z := by
  refine Bad.of B _ _ e (no5 B hb _ iK (B.no hc) (B.no hd)) fun s of e2 => ?_
  have hin := of.inn
  have hs := mZ of B.ok B.l4
  cases s with
  | adds a' c' d' =>
    obtain rfl := B.inj hb hin.1 (q1_ e2)
    obtain rfl := B.inj hc hin.2.1 (q3_ e2)
    obtain rfl := B.inj hd hin.2.2 (q5_ e2)
    have f := Of.two of fun _ _ => id
    exact h ⟨f.1, f.2.2.2⟩
  | sum a' c' n' => exact Bx.nn B (List.getElem?_eq_some_iff.mp hd).1 (hs n' (by simp [Say.args])).wd ((B.nm hd).trans (q5_ e2).symm)
  | _ => wtm_at "x"
theorem mU (B : Bx bs) (hb : bs[a]? = some b) (hc : bs[c]? = some b') (hd : bs[d]? = some b2) (e : cs z = fw [b.nm, "*", b'.nm, "=", b2.nm]) (h : ¬ (a < c /\ d ≠ a /\ d ≠ c)) : Bad bs z := by
  refine Bad.of B _ _ e (no5 B hb _ sg_no0 (B.no hc) (B.no hd)) fun s of e2 => ?_
  have hin := of.inn
  have hs := mZ of B.ok B.l4
  cases s with
  | times a' c' d' =>
    obtain rfl := B.inj hb hin.1 (q1_ e2)
    obtain rfl := B.inj hc hin.2.1 (q3_ e2)
    obtain rfl := B.inj hd hin.2.2 (q5_ e2)
    have f := Of.two of fun _ _ => id
    exact h ⟨f.1, f.2.2.2⟩
  | _ => wtm_at "x"
end
theorem qX {x y : Str} (h : no32 (cs x)) (g : no32 (cs y)) : no32 (cs (x ++ y)) := fun c hc => by
  rw [gQ] at hc
  rcases List.mem_append.mp hc with h1 | h1
  . exact h c h1
  . exact g c h1
theorem rX {x : Str} {l : List Nat} (e : cs x = l) (h : (l.all fun c => c != 32) = true) : no32 (cs x) := fun c hc e2 => by
  rw [e] at hc
  have := List.all_eq_true.mp h c hc
  rw [e2] at this
  exact nomatch this
theorem sX {nms : List Str} {w : Str} {c : Nat} (h : c ∈ cs w) (hc : (decide (97 <= c) && decide (c <= 122) || decide (48 <= c) && decide (c <= 57) || decide (c = 45)) = false) (hn : no32 (cs w)) : Rk nms .od w := by
  simp only [Bool.or_eq_false_iff, Bool.and_eq_false_iff, decide_eq_false_iff_not] at hc
  refine ⟨?_, ?_, hn⟩
  . rw [<- Bool.not_eq_true]
    intro hl
    unfold lowL at hl
    rw [Bool.and_eq_true, List.all_eq_true] at hl
    have := hl.2 c h
    simp only [Bool.and_eq_true, decide_eq_true_eq] at this
    omega
  . rw [<- Bool.not_eq_true]
    intro hl
    unfold smL at hl
    split at hl
    . rename_i d e
      rw [e] at h
      rcases List.mem_cons.mp h with h1 | h1
      . omega
      . unfold digL at hl
        simp only [Bool.and_eq_true, List.all_eq_true, decide_eq_true_eq] at hl
        have := hl.1.1.2 c h1
        omega
    . unfold digL at hl
      simp only [Bool.and_eq_true, List.all_eq_true, decide_eq_true_eq] at hl
      have := hl.1.2 c h
      omega
def odB (l : List Nat) : Bool := !lowL l && !smL l && l.all fun c => c != 32
theorem zX {nms : List Str} {w : Str} (h : odB (cs w) = true) : Rk nms .od w := by
  unfold odB at h
  simp only [Bool.and_eq_true, Bool.not_eq_true', List.all_eq_true] at h
  exact ⟨h.1.1, h.1.2, fun c hc e => by have := h.2 c hc; rw [e] at this; exact nomatch this⟩
local macro_rules | `(tactic| wtm_at "w") => `(tactic| (unfold Wd; omega))
theorem ct0 : cs " " = [32] := by decide +kernel
theorem ct1 : cs "= " = [61, 32] := by decide +kernel
theorem ct2 : cs "=" = [61] := by decide +kernel
theorem ct3 : cs ">= " = [62, 61, 32] := by decide +kernel
theorem ct4 : cs ">=" = [62, 61] := by decide +kernel
theorem ct5 : cs "<= " = [60, 61, 32] := by decide +kernel
theorem ct6 : cs "<=" = [60, 61] := by decide +kernel
theorem ct7 : cs "rest 1 = 0" = [114, 101, 115, 116, 32, 49, 32, 61, 32, 48] := by decide +kernel
theorem ct8 : cs "rest" = [114, 101, 115, 116] := by decide +kernel
theorem ct9 : cs "1" = [49] := by decide +kernel
theorem ct10 : cs "0" = [48] := by decide +kernel
theorem ct11 : cs "rest 7 = " = [114, 101, 115, 116, 32, 55, 32, 61, 32] := by decide +kernel
theorem ct12 : cs "7" = [55] := by decide +kernel
theorem ct13 : cs "rest 0 = 0" = [114, 101, 115, 116, 32, 48, 32, 61, 32, 48] := by decide +kernel
theorem ct14 : cs "rest -2 = 0" = [114, 101, 115, 116, 32, 45, 50, 32, 61, 32, 48] := by decide +kernel
theorem ct15 : cs "-2" = [45, 50] := by decide +kernel
theorem ct16 : cs "rest " = [114, 101, 115, 116, 32] := by decide +kernel
theorem ct17 : cs " = " = [32, 61, 32] := by decide +kernel
theorem ct18 : cs " = -1" = [32, 61, 32, 45, 49] := by decide +kernel
theorem ct19 : cs "-1" = [45, 49] := by decide +kernel
theorem ct20 : cs "in " = [105, 110, 32] := by decide +kernel
theorem ct21 : cs "in" = [105, 110] := by decide +kernel
theorem ct22 : cs "not " = [110, 111, 116, 32] := by decide +kernel
theorem ct23 : cs "not" = [110, 111, 116] := by decide +kernel
theorem ct24 : cs "= 999" = [61, 32, 57, 57, 57] := by decide +kernel
theorem ct25 : cs "999" = [57, 57, 57] := by decide +kernel
theorem ct26 : cs "not -999" = [110, 111, 116, 32, 45, 57, 57, 57] := by decide +kernel
theorem ct27 : cs "-999" = [45, 57, 57, 57] := by decide +kernel
theorem ct28 : cs " < " = [32, 60, 32] := by decide +kernel
theorem ct29 : cs "<" = [60] := by decide +kernel
theorem ct30 : cs " <= " = [32, 60, 61, 32] := by decide +kernel
theorem ct31 : cs " >= " = [32, 62, 61, 32] := by decide +kernel
theorem ct32 : cs " > " = [32, 62, 32] := by decide +kernel
theorem ct33 : cs ">" = [62] := by decide +kernel
theorem ct34 : cs " not " = [32, 110, 111, 116, 32] := by decide +kernel
theorem ct35 : cs " - " = [32, 45, 32] := by decide +kernel
theorem ct36 : cs "21" = [50, 49] := by decide +kernel
theorem ct37 : cs "-" = [45] := by decide +kernel
theorem ct38 : cs "-21" = [45, 50, 49] := by decide +kernel
theorem ct39 : cs " = 3" = [32, 61, 32, 51] := by decide +kernel
theorem ct40 : cs "3" = [51] := by decide +kernel
theorem ct41 : cs " + " = [32, 43, 32] := by decide +kernel
theorem ct42 : cs "+" = [43] := by decide +kernel
theorem ct43 : cs "41" = [52, 49] := by decide +kernel
theorem ct44 : cs "-41" = [45, 52, 49] := by decide +kernel
theorem ct45 : cs "99" = [57, 57] := by decide +kernel
theorem ct46 : cs " * " = [32, 42, 32] := by decide +kernel
theorem ct47 : cs "*" = [42] := by decide +kernel
theorem ct48 : cs " in " = [32, 105, 110, 32] := by decide +kernel
theorem ct49 : cs " = 1" = [32, 61, 32, 49] := by decide +kernel
theorem ct50 : cs " rest " = [32, 114, 101, 115, 116, 32] := by decide +kernel
theorem ct51 : cs " = 0" = [32, 61, 32, 48] := by decide +kernel
theorem ct52 : cs " rest 2 = " = [32, 114, 101, 115, 116, 32, 50, 32, 61, 32] := by decide +kernel
theorem ct53 : cs "2" = [50] := by decide +kernel
theorem ct54 : cs " < 3" = [32, 60, 32, 51] := by decide +kernel
theorem ct55 : cs " is " = [32, 105, 115, 32] := by decide +kernel
theorem ct56 : cs "is" = [105, 115] := by decide +kernel
theorem ct57 : cs " =" = [32, 61] := by decide +kernel
theorem ct58 : cs " == " = [32, 61, 61, 32] := by decide +kernel
theorem ct59 : cs "==" = [61, 61] := by decide +kernel
theorem ct60 : cs "3 - " = [51, 32, 45, 32] := by decide +kernel
theorem ct61 : cs " - 3 = 1" = [32, 45, 32, 51, 32, 61, 32, 49] := by decide +kernel
theorem ct62 : cs "3 = " = [51, 32, 61, 32] := by decide +kernel
theorem ct63 : cs " + 3" = [32, 43, 32, 51] := by decide +kernel
theorem ct64 : cs " - 3" = [32, 45, 32, 51] := by decide +kernel
theorem ct65 : cs " = 3 - " = [32, 61, 32, 51, 32, 45, 32] := by decide +kernel
theorem ct66 : cs " * 3 = " = [32, 42, 32, 51, 32, 61, 32] := by decide +kernel
theorem ct67 : cs ";" = [59] := by decide +kernel
theorem ct68 : cs "; " = [59, 32] := by decide +kernel
theorem ct69 : cs "" = [] := by decide +kernel
theorem ct70 : cs " != " = [32, 33, 61, 32] := by decide +kernel
theorem ct71 : cs "!=" = [33, 61] := by decide +kernel
theorem ct72 : cs "  = " = [32, 32, 61, 32] := by decide +kernel
theorem ct73 : cs " =  " = [32, 61, 32, 32] := by decide +kernel
theorem ct74 : cs "\n" = [10] := by decide +kernel
theorem ct75 : cs " rest 2 " = [32, 114, 101, 115, 116, 32, 50, 32] := by decide +kernel
theorem ct76 : cs " rest 2 > 0" = [32, 114, 101, 115, 116, 32, 50, 32, 62, 32, 48] := by decide +kernel
theorem ct77 : cs " rest 2 = 0 0" = [32, 114, 101, 115, 116, 32, 50, 32, 61, 32, 48, 32, 48] := by decide +kernel
theorem ct78 : cs " in 0 1 2" = [32, 105, 110, 32, 48, 32, 49, 32, 50] := by decide +kernel
theorem ct79 : cs " not = 1" = [32, 110, 111, 116, 32, 61, 32, 49] := by decide +kernel
theorem ct80 : cs " rest 2 = 0" = [32, 114, 101, 115, 116, 32, 50, 32, 61, 32, 48] := by decide +kernel
theorem ct81 : cs " rest 2" = [32, 114, 101, 115, 116, 32, 50] := by decide +kernel
theorem ct82 : cs "1 = " = [49, 32, 61, 32] := by decide +kernel
theorem ct83 : cs "never" = [110, 101, 118, 101, 114] := by decide +kernel
theorem ct84 : cs " or " = [32, 111, 114, 32] := by decide +kernel
theorem ct85 : cs "or" = [111, 114] := by decide +kernel
theorem ct86 : cs "," = [44] := by decide +kernel
theorem ct87 : cs ", " = [44, 32] := by decide +kernel
theorem ct88 : cs " ; " = [32, 59, 32] := by decide +kernel
theorem ct89 : cs " rest 2 = 0; " = [32, 114, 101, 115, 116, 32, 50, 32, 61, 32, 48, 59, 32] := by decide +kernel
theorem ct90 : cs "0;" = [48, 59] := by decide +kernel
theorem ct91 : cs " / " = [32, 47, 32] := by decide +kernel
theorem ct92 : cs "/" = [47] := by decide +kernel
theorem ct93 : cs " in 0 1" = [32, 105, 110, 32, 48, 32, 49] := by decide +kernel
theorem ct94 : cs " not 0" = [32, 110, 111, 116, 32, 48] := by decide +kernel
theorem ct95 : cs "- " = [45, 32] := by decide +kernel
theorem cn0 : cs (toString (1 : Int) : Str) = [49] := by decide +kernel
theorem cn1 : cs (toString (0 : Int) : Str) = [48] := by decide +kernel
theorem cn2 : cs (toString (7 : Int) : Str) = [55] := by decide +kernel
theorem cn3 : cs (toString (-2 : Int) : Str) = [45, 50] := by decide +kernel
theorem cn4 : cs (toString (-1 : Int) : Str) = [45, 49] := by decide +kernel
theorem cn5 : cs (toString (999 : Int) : Str) = [57, 57, 57] := by decide +kernel
theorem cn6 : cs (toString (-999 : Int) : Str) = [45, 57, 57, 57] := by decide +kernel
theorem cn7 : cs (toString (21 : Int) : Str) = [50, 49] := by decide +kernel
theorem cn8 : cs (toString (-21 : Int) : Str) = [45, 50, 49] := by decide +kernel
theorem cn9 : cs (toString (3 : Int) : Str) = [51] := by decide +kernel
theorem cn10 : cs (toString (41 : Int) : Str) = [52, 49] := by decide +kernel
theorem cn11 : cs (toString (-41 : Int) : Str) = [45, 52, 49] := by decide +kernel
theorem cn12 : cs (toString (99 : Int) : Str) = [57, 57] := by decide +kernel
def numsL (lo hi n m : Int) : List Str := [("= " ++ (toString ((hi + 1) : Int) : Str)), ("= " ++ (toString ((lo - 1) : Int) : Str)), (">= " ++ (toString (lo : Int) : Str)), (">= " ++ (toString ((hi + 1) : Int) : Str)), ("<= " ++ (toString (hi : Int) : Str)), ("<= " ++ (toString ((lo - 1) : Int) : Str)), "rest 1 = 0", ("rest 7 = " ++ (toString (m : Int) : Str)), "rest 0 = 0", "rest -2 = 0", ((("rest " ++ (toString (m : Int) : Str)) ++ " = ") ++ (toString (m : Int) : Str)), (("rest " ++ (toString (m : Int) : Str)) ++ " = -1"), ((("in " ++ (toString (n : Int) : Str)) ++ " ") ++ (toString (n : Int) : Str)), ((("in " ++ (toString (hi : Int) : Str)) ++ " ") ++ (toString (lo : Int) : Str)), ((("in " ++ (toString ((lo - 1) : Int) : Str)) ++ " ") ++ (toString (n : Int) : Str)), ("not " ++ (toString ((lo - 1) : Int) : Str)), ((("in " ++ (toString (n : Int) : Str)) ++ " ") ++ (toString ((hi + 1) : Int) : Str)), ("not " ++ (toString ((hi + 1) : Int) : Str)), "= 999", "not -999"]
theorem nums_bad {bs : List Box} (B : Bx bs) {a : Nat} {b : Box} (hb : bs[a]? = some b) {n m : Int} (n0 : b.lo <= n) (n1 : n <= b.hi) (m0 : 2 <= m) (m1 : m <= 6) (l0 : -99 <= b.lo) (l1 : b.hi <= 99) : ∀ z ∈ numsL b.lo b.hi n m, Bad bs ((b.nm ++ " ") ++ z) := by
  refine mem2 ?_ (mem2 ?_ (mem2 ?_ (mem2 ?_ (mem2 ?_ (mem2 ?_ (mem2 ?_ (mem2 ?_ (mem2 ?_ (mem2 ?_ (mem2 ?_ (mem2 ?_ (mem2 ?_ (mem2 ?_ (mem2 ?_ (mem2 ?_ (mem2 ?_ (mem2 ?_ (mem2 ?_ (mem2 ?_ (mem0))))))))))))))))))))
  . exact bd_is B hb (by wtm_at "w" : Wd (b.hi + 1)) (by simp only [gQ, fw, ct0, ct1, ct2, List.append_assoc, List.cons_append, List.nil_append, List.append_nil]) (by omega)
  . exact bd_is B hb (by wtm_at "w" : Wd (b.lo - 1)) (by simp only [gQ, fw, ct0, ct1, ct2, List.append_assoc, List.cons_append, List.nil_append, List.append_nil]) (by omega)
  . exact bd_frm B hb (by wtm_at "w" : Wd b.lo) (by simp only [gQ, fw, ct0, ct3, ct4, List.append_assoc, List.cons_append, List.nil_append, List.append_nil]) (by omega)
  . exact bd_frm B hb (by wtm_at "w" : Wd (b.hi + 1)) (by simp only [gQ, fw, ct0, ct3, ct4, List.append_assoc, List.cons_append, List.nil_append, List.append_nil]) (by omega)
  . exact bd_to B hb (by wtm_at "w" : Wd b.hi) (by simp only [gQ, fw, ct0, ct5, ct6, List.append_assoc, List.cons_append, List.nil_append, List.append_nil]) (by omega)
  . exact bd_to B hb (by wtm_at "w" : Wd (b.lo - 1)) (by simp only [gQ, fw, ct0, ct5, ct6, List.append_assoc, List.cons_append, List.nil_append, List.append_nil]) (by omega)
  . exact gW B hb (by wtm_at "w" : Wd (1)) (by wtm_at "w" : Wd (0)) (by simp only [gQ, fw, ct0, ct10, ct2, ct7, ct8, ct9, cn0, cn1, List.append_assoc, List.cons_append, List.nil_append, List.append_nil]) (by omega)
  . exact gW B hb (by wtm_at "w" : Wd (7)) (by wtm_at "w" : Wd m) (by simp only [gQ, fw, ct0, ct11, ct12, ct2, ct8, cn2, List.append_assoc, List.cons_append, List.nil_append, List.append_nil]) (by omega)
  . exact gW B hb (by wtm_at "w" : Wd (0)) (by wtm_at "w" : Wd (0)) (by simp only [gQ, fw, ct0, ct10, ct13, ct2, ct8, cn1, cn1, List.append_assoc, List.cons_append, List.nil_append, List.append_nil]) (by omega)
  . exact gW B hb (by wtm_at "w" : Wd (-2)) (by wtm_at "w" : Wd (0)) (by simp only [gQ, fw, ct0, ct10, ct14, ct15, ct2, ct8, cn3, cn1, List.append_assoc, List.cons_append, List.nil_append, List.append_nil]) (by omega)
  . exact gW B hb (by wtm_at "w" : Wd m) (by wtm_at "w" : Wd m) (by simp only [gQ, fw, ct0, ct16, ct17, ct2, ct8, List.append_assoc, List.cons_append, List.nil_append, List.append_nil]) (by omega)
  . exact gW B hb (by wtm_at "w" : Wd m) (by wtm_at "w" : Wd (-1)) (by simp only [gQ, fw, ct0, ct16, ct18, ct19, ct2, ct8, cn4, List.append_assoc, List.cons_append, List.nil_append, List.append_nil]) (by omega)
  . exact bd_in B hb (by wtm_at "w" : Wd n) (by wtm_at "w" : Wd n) (by simp only [gQ, fw, ct0, ct20, ct21, List.append_assoc, List.cons_append, List.nil_append, List.append_nil]) (by omega)
  . exact bd_in B hb (by wtm_at "w" : Wd b.hi) (by wtm_at "w" : Wd b.lo) (by simp only [gQ, fw, ct0, ct20, ct21, List.append_assoc, List.cons_append, List.nil_append, List.append_nil]) (by omega)
  . exact bd_in B hb (by wtm_at "w" : Wd (b.lo - 1)) (by wtm_at "w" : Wd n) (by simp only [gQ, fw, ct0, ct20, ct21, List.append_assoc, List.cons_append, List.nil_append, List.append_nil]) (by omega)
  . exact gO B hb (by wtm_at "w" : Wd (b.lo - 1)) (by simp only [gQ, fw, ct0, ct22, ct23, List.append_assoc, List.cons_append, List.nil_append, List.append_nil]) (by omega)
  . exact bd_in B hb (by wtm_at "w" : Wd n) (by wtm_at "w" : Wd (b.hi + 1)) (by simp only [gQ, fw, ct0, ct20, ct21, List.append_assoc, List.cons_append, List.nil_append, List.append_nil]) (by omega)
  . exact gO B hb (by wtm_at "w" : Wd (b.hi + 1)) (by simp only [gQ, fw, ct0, ct22, ct23, List.append_assoc, List.cons_append, List.nil_append, List.append_nil]) (by omega)
  . exact bd_is B hb (by wtm_at "w" : Wd (999)) (by simp only [gQ, fw, ct0, ct2, ct24, ct25, cn5, List.append_assoc, List.cons_append, List.nil_append, List.append_nil]) (by omega)
  . exact gO B hb (by wtm_at "w" : Wd (-999)) (by simp only [gQ, fw, ct0, ct23, ct26, ct27, cn6, List.append_assoc, List.cons_append, List.nil_append, List.append_nil]) (by omega)
def twosL (a b far great : Str) : List Str := [((b ++ " = ") ++ a), ((a ++ " = ") ++ a), ((a ++ " < ") ++ a), ((a ++ " <= ") ++ a), ((a ++ " >= ") ++ b), ((a ++ " > ") ++ b), ((a ++ " not ") ++ b), ((((a ++ " - ") ++ b) ++ " = ") ++ far), (((b ++ " - ") ++ a) ++ " = 3"), (((a ++ " - ") ++ a) ++ " = 3"), (((a ++ " + ") ++ a) ++ " = 3"), ((((a ++ " + ") ++ b) ++ " = ") ++ great), (((b ++ " + ") ++ a) ++ " = 3"), (((a ++ " * ") ++ b) ++ " = 3"), ((((a ++ " in ") ++ a) ++ " ") ++ b), ((((a ++ " - ") ++ b) ++ " = ") ++ b), ((((a ++ " + ") ++ b) ++ " = ") ++ a), ((((a ++ " * ") ++ b) ++ " = ") ++ b), (((a ++ " = ") ++ b) ++ " = 1"), (((a ++ " rest ") ++ b) ++ " = 0"), ((a ++ " rest 2 = ") ++ b), ((a ++ " - ") ++ b), (((a ++ " + ") ++ b) ++ " < 3"), ((a ++ " is ") ++ b), (((a ++ " + ") ++ b) ++ " ="), (((a ++ " < ") ++ b) ++ " < 3"), ((a ++ " == ") ++ b), (("3 - " ++ b) ++ " = 1"), (a ++ " - 3 = 1"), ((("3 = " ++ a) ++ " + ") ++ b), ((("3 = " ++ a) ++ " - ") ++ b), (((a ++ " = ") ++ b) ++ " + 3"), (((a ++ " = ") ++ b) ++ " - 3"), ((a ++ " = 3 - ") ++ b), ((a ++ " * 3 = ") ++ b), ((((((a ++ " < ") ++ b) ++ "; ") ++ a) ++ " < ") ++ b), (((((((a ++ " = ") ++ b) ++ "; ") ++ a) ++ " - ") ++ b) ++ " = 3")]
theorem twos_bad {bs : List Box} (B : Bx bs) {i j : Nat} {a b : Box} (ha : bs[i]? = some a) (hb : bs[j]? = some b) (hij : i < j) {far great : Str} (hfar : far = "21" \/ far = "-21" \/ far = "0") (hgreat : great = "41" \/ great = "-41" \/ great = "99") : ∀ z ∈ twosL a.nm b.nm far great, Bad bs z := by
  refine mem2 ?_ (mem2 ?_ (mem2 ?_ (mem2 ?_ (mem2 ?_ (mem2 ?_ (mem2 ?_ (mem2 ?_ (mem2 ?_ (mem2 ?_ (mem2 ?_ (mem2 ?_ (mem2 ?_ (mem2 ?_ (mem2 ?_ (mem2 ?_ (mem2 ?_ (mem2 ?_ (mem2 ?_ (mem2 ?_ (mem2 ?_ (mem2 ?_ (mem2 ?_ (mem2 ?_ (mem2 ?_ (mem2 ?_ (mem2 ?_ (mem2 ?_ (mem2 ?_ (mem2 ?_ (mem2 ?_ (mem2 ?_ (mem2 ?_ (mem2 ?_ (mem2 ?_ (mem2 ?_ (mem2 ?_ (mem0)))))))))))))))))))))))))))))))))))))
  . exact bd_same B hb ha (by simp only [gQ, fw, ct17, ct2, List.append_assoc, List.cons_append, List.nil_append, List.append_nil]) (by omega)
  . exact bd_same B ha ha (by simp only [gQ, fw, ct17, ct2, List.append_assoc, List.cons_append, List.nil_append, List.append_nil]) (by omega)
  . exact bd_below B ha (by simp only [gQ, fw, ct28, ct29, List.append_assoc, List.cons_append, List.nil_append, List.append_nil])
  . exact bd_most B ha (by simp only [gQ, fw, ct30, ct6, List.append_assoc, List.cons_append, List.nil_append, List.append_nil])
  . exact Bad.ks B a.nm [">=", b.nm] [.nm, .li ">=", .nm] (by simp only [gQ, fw, ct31, ct4, List.append_assoc, List.cons_append, List.nil_append, List.append_nil]) ⟨Bx.mem ha, rfl, Bx.mem hb, trivial⟩ (by decide +kernel)
  . exact Bad.ks B a.nm [">", b.nm] [.nm, .li ">", .nm] (by simp only [gQ, fw, ct32, ct33, List.append_assoc, List.cons_append, List.nil_append, List.append_nil]) ⟨Bx.mem ha, rfl, Bx.mem hb, trivial⟩ (by decide +kernel)
  . exact Bad.ks B a.nm ["not", b.nm] [.nm, .li "not", .nm] (by simp only [gQ, fw, ct23, ct34, List.append_assoc, List.cons_append, List.nil_append, List.append_nil]) ⟨Bx.mem ha, rfl, Bx.mem hb, trivial⟩ (by decide +kernel)
  . rcases hfar with rfl | rfl | rfl
    . exact aY B ha hb (by wtm_at "w" : Wd (21)) (by simp only [gQ, fw, ct17, ct2, ct35, ct36, ct37, cn7, List.append_assoc, List.cons_append, List.nil_append, List.append_nil]) (by omega)
    . exact aY B ha hb (by wtm_at "w" : Wd (-21)) (by simp only [gQ, fw, ct17, ct2, ct35, ct37, ct38, cn8, List.append_assoc, List.cons_append, List.nil_append, List.append_nil]) (by omega)
    . exact aY B ha hb (by wtm_at "w" : Wd (0)) (by simp only [gQ, fw, ct10, ct17, ct2, ct35, ct37, cn1, List.append_assoc, List.cons_append, List.nil_append, List.append_nil]) (by omega)
  . exact aY B hb ha (by wtm_at "w" : Wd (3)) (by simp only [gQ, fw, ct2, ct35, ct37, ct39, ct40, cn9, List.append_assoc, List.cons_append, List.nil_append, List.append_nil]) (by omega)
  . exact aY B ha ha (by wtm_at "w" : Wd (3)) (by simp only [gQ, fw, ct2, ct35, ct37, ct39, ct40, cn9, List.append_assoc, List.cons_append, List.nil_append, List.append_nil]) (by omega)
  . exact bY B ha ha (by wtm_at "w" : Wd (3)) (by simp only [gQ, fw, ct2, ct39, ct40, ct41, ct42, cn9, List.append_assoc, List.cons_append, List.nil_append, List.append_nil]) (by omega)
  . rcases hgreat with rfl | rfl | rfl
    . exact bY B ha hb (by wtm_at "w" : Wd (41)) (by simp only [gQ, fw, ct17, ct2, ct41, ct42, ct43, cn10, List.append_assoc, List.cons_append, List.nil_append, List.append_nil]) (by omega)
    . exact bY B ha hb (by wtm_at "w" : Wd (-41)) (by simp only [gQ, fw, ct17, ct2, ct41, ct42, ct44, cn11, List.append_assoc, List.cons_append, List.nil_append, List.append_nil]) (by omega)
    . exact bY B ha hb (by wtm_at "w" : Wd (99)) (by simp only [gQ, fw, ct17, ct2, ct41, ct42, ct45, cn12, List.append_assoc, List.cons_append, List.nil_append, List.append_nil]) (by omega)
  . exact bY B hb ha (by wtm_at "w" : Wd (3)) (by simp only [gQ, fw, ct2, ct39, ct40, ct41, ct42, cn9, List.append_assoc, List.cons_append, List.nil_append, List.append_nil]) (by omega)
  . exact Bad.ks B a.nm ["*", b.nm, "=", "3"] [.nm, .li "*", .nm, .li "=", .li "3"] (by simp only [gQ, fw, ct2, ct39, ct40, ct46, ct47, List.append_assoc, List.cons_append, List.nil_append, List.append_nil]) ⟨Bx.mem ha, rfl, Bx.mem hb, rfl, rfl, trivial⟩ (by decide +kernel)
  . exact Bad.ks B a.nm ["in", a.nm, b.nm] [.nm, .li "in", .nm, .nm] (by simp only [gQ, fw, ct0, ct21, ct48, List.append_assoc, List.cons_append, List.nil_append, List.append_nil]) ⟨Bx.mem ha, rfl, Bx.mem ha, Bx.mem hb, trivial⟩ (by decide +kernel)
  . exact Bad.ks B a.nm ["-", b.nm, "=", b.nm] [.nm, .li "-", .nm, .li "=", .nm] (by simp only [gQ, fw, ct17, ct2, ct35, ct37, List.append_assoc, List.cons_append, List.nil_append, List.append_nil]) ⟨Bx.mem ha, rfl, Bx.mem hb, rfl, Bx.mem hb, trivial⟩ (by decide +kernel)
  . exact bd_adds B ha hb ha (by simp only [gQ, fw, ct17, ct2, ct41, ct42, List.append_assoc, List.cons_append, List.nil_append, List.append_nil]) (by omega)
  . exact mU B ha hb hb (by simp only [gQ, fw, ct17, ct2, ct46, ct47, List.append_assoc, List.cons_append, List.nil_append, List.append_nil]) (by omega)
  . exact Bad.ks B a.nm ["=", b.nm, "=", "1"] [.nm, .li "=", .nm, .li "=", .li "1"] (by simp only [gQ, fw, ct17, ct2, ct49, ct9, List.append_assoc, List.cons_append, List.nil_append, List.append_nil]) ⟨Bx.mem ha, rfl, Bx.mem hb, rfl, rfl, trivial⟩ (by decide +kernel)
  . exact Bad.ks B a.nm ["rest", b.nm, "=", "0"] [.nm, .li "rest", .nm, .li "=", .li "0"] (by simp only [gQ, fw, ct10, ct2, ct50, ct51, ct8, List.append_assoc, List.cons_append, List.nil_append, List.append_nil]) ⟨Bx.mem ha, rfl, Bx.mem hb, rfl, rfl, trivial⟩ (by decide +kernel)
  . exact Bad.ks B a.nm ["rest", "2", "=", b.nm] [.nm, .li "rest", .li "2", .li "=", .nm] (by simp only [gQ, fw, ct2, ct52, ct53, ct8, List.append_assoc, List.cons_append, List.nil_append, List.append_nil]) ⟨Bx.mem ha, rfl, rfl, rfl, Bx.mem hb, trivial⟩ (by decide +kernel)
  . exact Bad.ks B a.nm ["-", b.nm] [.nm, .li "-", .nm] (by simp only [gQ, fw, ct35, ct37, List.append_assoc, List.cons_append, List.nil_append, List.append_nil]) ⟨Bx.mem ha, rfl, Bx.mem hb, trivial⟩ (by decide +kernel)
  . exact Bad.ks B a.nm ["+", b.nm, "<", "3"] [.nm, .li "+", .nm, .li "<", .li "3"] (by simp only [gQ, fw, ct29, ct40, ct41, ct42, ct54, List.append_assoc, List.cons_append, List.nil_append, List.append_nil]) ⟨Bx.mem ha, rfl, Bx.mem hb, rfl, rfl, trivial⟩ (by decide +kernel)
  . exact Bad.ks B a.nm ["is", b.nm] [.nm, .li "is", .nm] (by simp only [gQ, fw, ct55, ct56, List.append_assoc, List.cons_append, List.nil_append, List.append_nil]) ⟨Bx.mem ha, rfl, Bx.mem hb, trivial⟩ (by decide +kernel)
  . exact Bad.ks B a.nm ["+", b.nm, "="] [.nm, .li "+", .nm, .li "="] (by simp only [gQ, fw, ct2, ct41, ct42, ct57, List.append_assoc, List.cons_append, List.nil_append, List.append_nil]) ⟨Bx.mem ha, rfl, Bx.mem hb, rfl, trivial⟩ (by decide +kernel)
  . exact Bad.ks B a.nm ["<", b.nm, "<", "3"] [.nm, .li "<", .nm, .li "<", .li "3"] (by simp only [gQ, fw, ct28, ct29, ct40, ct54, List.append_assoc, List.cons_append, List.nil_append, List.append_nil]) ⟨Bx.mem ha, rfl, Bx.mem hb, rfl, rfl, trivial⟩ (by decide +kernel)
  . exact Bad.ks B a.nm ["==", b.nm] [.nm, .li "==", .nm] (by simp only [gQ, fw, ct58, ct59, List.append_assoc, List.cons_append, List.nil_append, List.append_nil]) ⟨Bx.mem ha, rfl, Bx.mem hb, trivial⟩ (by decide +kernel)
  . exact Bad.ks B "3" ["-", b.nm, "=", "1"] [.li "3", .li "-", .nm, .li "=", .li "1"] (by simp only [gQ, fw, ct2, ct37, ct40, ct49, ct60, ct9, List.append_assoc, List.cons_append, List.nil_append, List.append_nil]) ⟨rfl, rfl, Bx.mem hb, rfl, rfl, trivial⟩ (by decide +kernel)
  . exact Bad.ks B a.nm ["-", "3", "=", "1"] [.nm, .li "-", .li "3", .li "=", .li "1"] (by simp only [gQ, fw, ct2, ct37, ct40, ct61, ct9, List.append_assoc, List.cons_append, List.nil_append, List.append_nil]) ⟨Bx.mem ha, rfl, rfl, rfl, rfl, trivial⟩ (by decide +kernel)
  . exact Bad.ks B "3" ["=", a.nm, "+", b.nm] [.li "3", .li "=", .nm, .li "+", .nm] (by simp only [gQ, fw, ct2, ct40, ct41, ct42, ct62, List.append_assoc, List.cons_append, List.nil_append, List.append_nil]) ⟨rfl, rfl, Bx.mem ha, rfl, Bx.mem hb, trivial⟩ (by decide +kernel)
  . exact Bad.ks B "3" ["=", a.nm, "-", b.nm] [.li "3", .li "=", .nm, .li "-", .nm] (by simp only [gQ, fw, ct2, ct35, ct37, ct40, ct62, List.append_assoc, List.cons_append, List.nil_append, List.append_nil]) ⟨rfl, rfl, Bx.mem ha, rfl, Bx.mem hb, trivial⟩ (by decide +kernel)
  . exact Bad.ks B a.nm ["=", b.nm, "+", "3"] [.nm, .li "=", .nm, .li "+", .li "3"] (by simp only [gQ, fw, ct17, ct2, ct40, ct42, ct63, List.append_assoc, List.cons_append, List.nil_append, List.append_nil]) ⟨Bx.mem ha, rfl, Bx.mem hb, rfl, rfl, trivial⟩ (by decide +kernel)
  . exact Bad.ks B a.nm ["=", b.nm, "-", "3"] [.nm, .li "=", .nm, .li "-", .li "3"] (by simp only [gQ, fw, ct17, ct2, ct37, ct40, ct64, List.append_assoc, List.cons_append, List.nil_append, List.append_nil]) ⟨Bx.mem ha, rfl, Bx.mem hb, rfl, rfl, trivial⟩ (by decide +kernel)
  . exact Bad.ks B a.nm ["=", "3", "-", b.nm] [.nm, .li "=", .li "3", .li "-", .nm] (by simp only [gQ, fw, ct2, ct37, ct40, ct65, List.append_assoc, List.cons_append, List.nil_append, List.append_nil]) ⟨Bx.mem ha, rfl, rfl, rfl, Bx.mem hb, trivial⟩ (by decide +kernel)
  . exact Bad.ks B a.nm ["*", "3", "=", b.nm] [.nm, .li "*", .li "3", .li "=", .nm] (by simp only [gQ, fw, ct2, ct40, ct47, ct66, List.append_assoc, List.cons_append, List.nil_append, List.append_nil]) ⟨Bx.mem ha, rfl, rfl, rfl, Bx.mem hb, trivial⟩ (by decide +kernel)
  . exact Bad.ks B a.nm ["<", (b.nm ++ ";"), a.nm, "<", b.nm] [.nm, .li "<", .od, .nm, .li "<", .nm] (by simp only [gQ, fw, ct28, ct29, ct67, ct68, List.append_assoc, List.cons_append, List.nil_append, List.append_nil]) ⟨Bx.mem ha, rfl, sX (c := 59) (by simp only [gQ, ct67, List.mem_append, List.mem_cons, List.not_mem_nil, true_or, or_true]) (by decide) (qX (B.no hb) (rX ct67 rfl)), Bx.mem ha, rfl, Bx.mem hb, trivial⟩ (by decide +kernel)
  . exact Bad.ks B a.nm ["=", (b.nm ++ ";"), a.nm, "-", b.nm, "=", "3"] [.nm, .li "=", .od, .nm, .li "-", .nm, .li "=", .li "3"] (by simp only [gQ, fw, ct17, ct2, ct35, ct37, ct39, ct40, ct67, ct68, List.append_assoc, List.cons_append, List.nil_append, List.append_nil]) ⟨Bx.mem ha, rfl, sX (c := 59) (by simp only [gQ, ct67, List.mem_append, List.mem_cons, List.not_mem_nil, true_or, or_true]) (by decide) (qX (B.no hb) (rX ct67 rfl)), Bx.mem ha, rfl, Bx.mem hb, rfl, rfl, trivial⟩ (by decide +kernel)
def wrdsL (one good more : Str) (n : Int) : List Str := ["", one, " ", (one ++ " ="), (one ++ " = "), ((good ++ " ") ++ (toString (n : Int) : Str)), ((good ++ " ") ++ one), ((one ++ " == ") ++ (toString (n : Int) : Str)), ((one ++ " > ") ++ (toString (n : Int) : Str)), ((one ++ " < ") ++ (toString (n : Int) : Str)), ((one ++ " != ") ++ (toString (n : Int) : Str)), ((one ++ " is ") ++ (toString (n : Int) : Str)), (((toString (n : Int) : Str) ++ " = ") ++ one), ((one ++ "  = ") ++ (toString (n : Int) : Str)), ((one ++ " =  ") ++ (toString (n : Int) : Str)), (" " ++ good), (good ++ " "), (good ++ "\n"), ("\n" ++ good), ((one ++ "=") ++ (toString (n : Int) : Str)), ((((one ++ " = ") ++ one) ++ " = ") ++ one), ("= " ++ (toString (n : Int) : Str)), (((Txt.upper one) ++ " = ") ++ (toString (n : Int) : Str)), ((one ++ " ") ++ (toString (n : Int) : Str)), ((one ++ " in ") ++ (toString (n : Int) : Str)), ((one ++ " rest 2 ") ++ (toString (n : Int) : Str)), (one ++ " rest 2 > 0"), (one ++ " rest 2 = 0 0"), (one ++ " in 0 1 2"), (toString (n : Int) : Str), (good ++ ";"), (one ++ " not = 1"), ((good ++ "; ") ++ good), (((good ++ "; ") ++ one) ++ " rest 2 = 0"), ((((good ++ "; ") ++ good) ++ "; ") ++ good), ((((toString (n : Int) : Str) ++ " = ") ++ one) ++ " rest 2"), (("1 = " ++ one) ++ " rest 2"), ((((good ++ " ") ++ more) ++ " ") ++ good), ((good ++ " or ") ++ good), ((good ++ ", ") ++ good), ((good ++ " ; ") ++ good), ((one ++ " rest 2 = 0; ") ++ good)]
theorem wrds_bad {bs : List Box} (B : Bx bs) {a : Nat} {b : Box} (hb : bs[a]? = some b) {n : Int} {more : Str} (n0 : b.lo <= n) (n1 : n <= b.hi) (l0 : -99 <= b.lo) (l1 : b.hi <= 99) (hmore : more = "never" \/ more = "is") (hup : Rk (bs.map Box.nm) .od (Txt.upper b.nm)) : ∀ z ∈ wrdsL b.nm ((b.nm ++ " = ") ++ (toString (n : Int) : Str)) more n, Bad bs z := by
  refine mem2 ?_ (mem2 ?_ (mem2 ?_ (mem2 ?_ (mem2 ?_ (mem2 ?_ (mem2 ?_ (mem2 ?_ (mem2 ?_ (mem2 ?_ (mem2 ?_ (mem2 ?_ (mem2 ?_ (mem2 ?_ (mem2 ?_ (mem2 ?_ (mem2 ?_ (mem2 ?_ (mem2 ?_ (mem2 ?_ (mem2 ?_ (mem2 ?_ (mem2 ?_ (mem2 ?_ (mem2 ?_ (mem2 ?_ (mem2 ?_ (mem2 ?_ (mem2 ?_ (mem2 ?_ (mem2 ?_ (mem2 ?_ (mem2 ?_ (mem2 ?_ (mem2 ?_ (mem2 ?_ (mem2 ?_ (mem2 ?_ (mem2 ?_ (mem2 ?_ (mem2 ?_ (mem2 ?_ (mem0))))))))))))))))))))))))))))))))))))))))))
  . exact Bad.ks B "" [] [.li ""] (by simp only [gQ, fw, ct69, List.append_assoc, List.cons_append, List.nil_append, List.append_nil]) ⟨rfl, trivial⟩ (by decide +kernel)
  . exact Bad.ks B b.nm [] [.nm] (by simp only [gQ, fw, List.append_assoc, List.cons_append, List.nil_append, List.append_nil]) ⟨Bx.mem hb, trivial⟩ (by decide +kernel)
  . exact Bad.ks B "" [""] [.li "", .li ""] (by simp only [gQ, fw, ct0, ct69, List.append_assoc, List.cons_append, List.nil_append, List.append_nil]) ⟨rfl, rfl, trivial⟩ (by decide +kernel)
  . exact Bad.ks B b.nm ["="] [.nm, .li "="] (by simp only [gQ, fw, ct2, ct57, List.append_assoc, List.cons_append, List.nil_append, List.append_nil]) ⟨Bx.mem hb, rfl, trivial⟩ (by decide +kernel)
  . exact Bad.ks B b.nm ["=", ""] [.nm, .li "=", .li ""] (by simp only [gQ, fw, ct17, ct2, ct69, List.append_assoc, List.cons_append, List.nil_append, List.append_nil]) ⟨Bx.mem hb, rfl, rfl, trivial⟩ (by decide +kernel)
  . exact Bad.ks B b.nm ["=", (toString (n : Int) : Str), (toString (n : Int) : Str)] [.nm, .li "=", .nu, .nu] (by simp only [gQ, fw, ct0, ct17, ct2, List.append_assoc, List.cons_append, List.nil_append, List.append_nil]) ⟨Bx.mem hb, rfl, ⟨_, by wtm_at "w", rfl⟩, ⟨_, by wtm_at "w", rfl⟩, trivial⟩ (by decide +kernel)
  . exact Bad.ks B b.nm ["=", (toString (n : Int) : Str), b.nm] [.nm, .li "=", .nu, .nm] (by simp only [gQ, fw, ct0, ct17, ct2, List.append_assoc, List.cons_append, List.nil_append, List.append_nil]) ⟨Bx.mem hb, rfl, ⟨_, by wtm_at "w", rfl⟩, Bx.mem hb, trivial⟩ (by decide +kernel)
  . exact Bad.ks B b.nm ["==", (toString (n : Int) : Str)] [.nm, .li "==", .nu] (by simp only [gQ, fw, ct58, ct59, List.append_assoc, List.cons_append, List.nil_append, List.append_nil]) ⟨Bx.mem hb, rfl, ⟨_, by wtm_at "w", rfl⟩, trivial⟩ (by decide +kernel)
  . exact Bad.ks B b.nm [">", (toString (n : Int) : Str)] [.nm, .li ">", .nu] (by simp only [gQ, fw, ct32, ct33, List.append_assoc, List.cons_append, List.nil_append, List.append_nil]) ⟨Bx.mem hb, rfl, ⟨_, by wtm_at "w", rfl⟩, trivial⟩ (by decide +kernel)
  . exact Bad.ks B b.nm ["<", (toString (n : Int) : Str)] [.nm, .li "<", .nu] (by simp only [gQ, fw, ct28, ct29, List.append_assoc, List.cons_append, List.nil_append, List.append_nil]) ⟨Bx.mem hb, rfl, ⟨_, by wtm_at "w", rfl⟩, trivial⟩ (by decide +kernel)
  . exact Bad.ks B b.nm ["!=", (toString (n : Int) : Str)] [.nm, .li "!=", .nu] (by simp only [gQ, fw, ct70, ct71, List.append_assoc, List.cons_append, List.nil_append, List.append_nil]) ⟨Bx.mem hb, rfl, ⟨_, by wtm_at "w", rfl⟩, trivial⟩ (by decide +kernel)
  . exact Bad.ks B b.nm ["is", (toString (n : Int) : Str)] [.nm, .li "is", .nu] (by simp only [gQ, fw, ct55, ct56, List.append_assoc, List.cons_append, List.nil_append, List.append_nil]) ⟨Bx.mem hb, rfl, ⟨_, by wtm_at "w", rfl⟩, trivial⟩ (by decide +kernel)
  . exact Bad.ks B (toString (n : Int) : Str) ["=", b.nm] [.nu, .li "=", .nm] (by simp only [gQ, fw, ct17, ct2, List.append_assoc, List.cons_append, List.nil_append, List.append_nil]) ⟨⟨_, by wtm_at "w", rfl⟩, rfl, Bx.mem hb, trivial⟩ (by decide +kernel)
  . exact Bad.ks B b.nm ["", "=", (toString (n : Int) : Str)] [.nm, .li "", .li "=", .nu] (by simp only [gQ, fw, ct2, ct69, ct72, List.append_assoc, List.cons_append, List.nil_append, List.append_nil]) ⟨Bx.mem hb, rfl, rfl, ⟨_, by wtm_at "w", rfl⟩, trivial⟩ (by decide +kernel)
  . exact Bad.ks B b.nm ["=", "", (toString (n : Int) : Str)] [.nm, .li "=", .li "", .nu] (by simp only [gQ, fw, ct2, ct69, ct73, List.append_assoc, List.cons_append, List.nil_append, List.append_nil]) ⟨Bx.mem hb, rfl, rfl, ⟨_, by wtm_at "w", rfl⟩, trivial⟩ (by decide +kernel)
  . exact Bad.ks B "" [b.nm, "=", (toString (n : Int) : Str)] [.li "", .nm, .li "=", .nu] (by simp only [gQ, fw, ct0, ct17, ct2, ct69, List.append_assoc, List.cons_append, List.nil_append, List.append_nil]) ⟨rfl, Bx.mem hb, rfl, ⟨_, by wtm_at "w", rfl⟩, trivial⟩ (by decide +kernel)
  . exact Bad.ks B b.nm ["=", (toString (n : Int) : Str), ""] [.nm, .li "=", .nu, .li ""] (by simp only [gQ, fw, ct0, ct17, ct2, ct69, List.append_assoc, List.cons_append, List.nil_append, List.append_nil]) ⟨Bx.mem hb, rfl, ⟨_, by wtm_at "w", rfl⟩, rfl, trivial⟩ (by decide +kernel)
  . exact Bad.ks B b.nm ["=", ((toString (n : Int) : Str) ++ "\n")] [.nm, .li "=", .od] (by simp only [gQ, fw, ct17, ct2, ct74, List.append_assoc, List.cons_append, List.nil_append, List.append_nil]) ⟨Bx.mem hb, rfl, sX (c := 10) (by simp only [gQ, ct74, List.mem_append, List.mem_cons, List.not_mem_nil, true_or, or_true]) (by decide) (qX (Wd.no (by wtm_at "w")) (rX ct74 rfl)), trivial⟩ (by decide +kernel)
  . exact Bad.ks B ("\n" ++ b.nm) ["=", (toString (n : Int) : Str)] [.od, .li "=", .nu] (by simp only [gQ, fw, ct17, ct2, ct74, List.append_assoc, List.cons_append, List.nil_append, List.append_nil]) ⟨sX (c := 10) (by simp only [gQ, ct74, List.mem_append, List.mem_cons, List.not_mem_nil, true_or, or_true]) (by decide) (qX (rX ct74 rfl) (B.no hb)), rfl, ⟨_, by wtm_at "w", rfl⟩, trivial⟩ (by decide +kernel)
  . exact Bad.ks B ((b.nm ++ "=") ++ (toString (n : Int) : Str)) [] [.od] (by simp only [gQ, fw, ct2, List.append_assoc, List.cons_append, List.nil_append, List.append_nil]) ⟨sX (c := 61) (by simp only [gQ, ct2, List.mem_append, List.mem_cons, List.not_mem_nil, true_or, or_true]) (by decide) (qX (qX (B.no hb) (rX ct2 rfl)) (Wd.no (by wtm_at "w"))), trivial⟩ (by decide +kernel)
  . exact Bad.ks B b.nm ["=", b.nm, "=", b.nm] [.nm, .li "=", .nm, .li "=", .nm] (by simp only [gQ, fw, ct17, ct2, List.append_assoc, List.cons_append, List.nil_append, List.append_nil]) ⟨Bx.mem hb, rfl, Bx.mem hb, rfl, Bx.mem hb, trivial⟩ (by decide +kernel)
  . exact Bad.ks B "=" [(toString (n : Int) : Str)] [.li "=", .nu] (by simp only [gQ, fw, ct1, ct2, List.append_assoc, List.cons_append, List.nil_append, List.append_nil]) ⟨rfl, ⟨_, by wtm_at "w", rfl⟩, trivial⟩ (by decide +kernel)
  . exact Bad.ks B (Txt.upper b.nm) ["=", (toString (n : Int) : Str)] [.od, .li "=", .nu] (by simp only [gQ, fw, ct17, ct2, List.append_assoc, List.cons_append, List.nil_append, List.append_nil]) ⟨hup, rfl, ⟨_, by wtm_at "w", rfl⟩, trivial⟩ (by decide +kernel)
  . exact Bad.ks B b.nm [(toString (n : Int) : Str)] [.nm, .nu] (by simp only [gQ, fw, ct0, List.append_assoc, List.cons_append, List.nil_append, List.append_nil]) ⟨Bx.mem hb, ⟨_, by wtm_at "w", rfl⟩, trivial⟩ (by decide +kernel)
  . exact Bad.ks B b.nm ["in", (toString (n : Int) : Str)] [.nm, .li "in", .nu] (by simp only [gQ, fw, ct21, ct48, List.append_assoc, List.cons_append, List.nil_append, List.append_nil]) ⟨Bx.mem hb, rfl, ⟨_, by wtm_at "w", rfl⟩, trivial⟩ (by decide +kernel)
  . exact Bad.ks B b.nm ["rest", "2", (toString (n : Int) : Str)] [.nm, .li "rest", .li "2", .nu] (by simp only [gQ, fw, ct53, ct75, ct8, List.append_assoc, List.cons_append, List.nil_append, List.append_nil]) ⟨Bx.mem hb, rfl, rfl, ⟨_, by wtm_at "w", rfl⟩, trivial⟩ (by decide +kernel)
  . exact Bad.ks B b.nm ["rest", "2", ">", "0"] [.nm, .li "rest", .li "2", .li ">", .li "0"] (by simp only [gQ, fw, ct10, ct33, ct53, ct76, ct8, List.append_assoc, List.cons_append, List.nil_append, List.append_nil]) ⟨Bx.mem hb, rfl, rfl, rfl, rfl, trivial⟩ (by decide +kernel)
  . exact Bad.ks B b.nm ["rest", "2", "=", "0", "0"] [.nm, .li "rest", .li "2", .li "=", .li "0", .li "0"] (by simp only [gQ, fw, ct10, ct2, ct53, ct77, ct8, List.append_assoc, List.cons_append, List.nil_append, List.append_nil]) ⟨Bx.mem hb, rfl, rfl, rfl, rfl, rfl, trivial⟩ (by decide +kernel)
  . exact Bad.ks B b.nm ["in", "0", "1", "2"] [.nm, .li "in", .li "0", .li "1", .li "2"] (by simp only [gQ, fw, ct10, ct21, ct53, ct78, ct9, List.append_assoc, List.cons_append, List.nil_append, List.append_nil]) ⟨Bx.mem hb, rfl, rfl, rfl, rfl, trivial⟩ (by decide +kernel)
  . exact Bad.ks B (toString (n : Int) : Str) [] [.nu] (by simp only [gQ, fw, List.append_assoc, List.cons_append, List.nil_append, List.append_nil]) ⟨⟨_, by wtm_at "w", rfl⟩, trivial⟩ (by decide +kernel)
  . exact Bad.ks B b.nm ["=", ((toString (n : Int) : Str) ++ ";")] [.nm, .li "=", .od] (by simp only [gQ, fw, ct17, ct2, ct67, List.append_assoc, List.cons_append, List.nil_append, List.append_nil]) ⟨Bx.mem hb, rfl, sX (c := 59) (by simp only [gQ, ct67, List.mem_append, List.mem_cons, List.not_mem_nil, true_or, or_true]) (by decide) (qX (Wd.no (by wtm_at "w")) (rX ct67 rfl)), trivial⟩ (by decide +kernel)
  . exact Bad.ks B b.nm ["not", "=", "1"] [.nm, .li "not", .li "=", .li "1"] (by simp only [gQ, fw, ct2, ct23, ct79, ct9, List.append_assoc, List.cons_append, List.nil_append, List.append_nil]) ⟨Bx.mem hb, rfl, rfl, rfl, trivial⟩ (by decide +kernel)
  . exact Bad.ks B b.nm ["=", ((toString (n : Int) : Str) ++ ";"), b.nm, "=", (toString (n : Int) : Str)] [.nm, .li "=", .od, .nm, .li "=", .nu] (by simp only [gQ, fw, ct17, ct2, ct67, ct68, List.append_assoc, List.cons_append, List.nil_append, List.append_nil]) ⟨Bx.mem hb, rfl, sX (c := 59) (by simp only [gQ, ct67, List.mem_append, List.mem_cons, List.not_mem_nil, true_or, or_true]) (by decide) (qX (Wd.no (by wtm_at "w")) (rX ct67 rfl)), Bx.mem hb, rfl, ⟨_, by wtm_at "w", rfl⟩, trivial⟩ (by decide +kernel)
  . exact Bad.ks B b.nm ["=", ((toString (n : Int) : Str) ++ ";"), b.nm, "rest", "2", "=", "0"] [.nm, .li "=", .od, .nm, .li "rest", .li "2", .li "=", .li "0"] (by simp only [gQ, fw, ct10, ct17, ct2, ct53, ct67, ct68, ct8, ct80, List.append_assoc, List.cons_append, List.nil_append, List.append_nil]) ⟨Bx.mem hb, rfl, sX (c := 59) (by simp only [gQ, ct67, List.mem_append, List.mem_cons, List.not_mem_nil, true_or, or_true]) (by decide) (qX (Wd.no (by wtm_at "w")) (rX ct67 rfl)), Bx.mem hb, rfl, rfl, rfl, rfl, trivial⟩ (by decide +kernel)
  . exact Bad.ks B b.nm ["=", ((toString (n : Int) : Str) ++ ";"), b.nm, "=", ((toString (n : Int) : Str) ++ ";"), b.nm, "=", (toString (n : Int) : Str)] [.nm, .li "=", .od, .nm, .li "=", .od, .nm, .li "=", .nu] (by simp only [gQ, fw, ct17, ct2, ct67, ct68, List.append_assoc, List.cons_append, List.nil_append, List.append_nil]) ⟨Bx.mem hb, rfl, sX (c := 59) (by simp only [gQ, ct67, List.mem_append, List.mem_cons, List.not_mem_nil, true_or, or_true]) (by decide) (qX (Wd.no (by wtm_at "w")) (rX ct67 rfl)), Bx.mem hb, rfl, sX (c := 59) (by simp only [gQ, ct67, List.mem_append, List.mem_cons, List.not_mem_nil, true_or, or_true]) (by decide) (qX (Wd.no (by wtm_at "w")) (rX ct67 rfl)), Bx.mem hb, rfl, ⟨_, by wtm_at "w", rfl⟩, trivial⟩ (by decide +kernel)
  . exact Bad.ks B (toString (n : Int) : Str) ["=", b.nm, "rest", "2"] [.nu, .li "=", .nm, .li "rest", .li "2"] (by simp only [gQ, fw, ct17, ct2, ct53, ct8, ct81, List.append_assoc, List.cons_append, List.nil_append, List.append_nil]) ⟨⟨_, by wtm_at "w", rfl⟩, rfl, Bx.mem hb, rfl, rfl, trivial⟩ (by decide +kernel)
  . exact Bad.ks B "1" ["=", b.nm, "rest", "2"] [.li "1", .li "=", .nm, .li "rest", .li "2"] (by simp only [gQ, fw, ct2, ct53, ct8, ct81, ct82, ct9, List.append_assoc, List.cons_append, List.nil_append, List.append_nil]) ⟨rfl, rfl, Bx.mem hb, rfl, rfl, trivial⟩ (by decide +kernel)
  . rcases hmore with rfl | rfl
    . exact Bad.ks B b.nm ["=", (toString (n : Int) : Str), "never", b.nm, "=", (toString (n : Int) : Str)] [.nm, .li "=", .nu, .li "never", .nm, .li "=", .nu] (by simp only [gQ, fw, ct0, ct17, ct2, ct83, List.append_assoc, List.cons_append, List.nil_append, List.append_nil]) ⟨Bx.mem hb, rfl, ⟨_, by wtm_at "w", rfl⟩, rfl, Bx.mem hb, rfl, ⟨_, by wtm_at "w", rfl⟩, trivial⟩ (by decide +kernel)
    . exact Bad.ks B b.nm ["=", (toString (n : Int) : Str), "is", b.nm, "=", (toString (n : Int) : Str)] [.nm, .li "=", .nu, .li "is", .nm, .li "=", .nu] (by simp only [gQ, fw, ct0, ct17, ct2, ct56, List.append_assoc, List.cons_append, List.nil_append, List.append_nil]) ⟨Bx.mem hb, rfl, ⟨_, by wtm_at "w", rfl⟩, rfl, Bx.mem hb, rfl, ⟨_, by wtm_at "w", rfl⟩, trivial⟩ (by decide +kernel)
  . exact Bad.ks B b.nm ["=", (toString (n : Int) : Str), "or", b.nm, "=", (toString (n : Int) : Str)] [.nm, .li "=", .nu, .li "or", .nm, .li "=", .nu] (by simp only [gQ, fw, ct17, ct2, ct84, ct85, List.append_assoc, List.cons_append, List.nil_append, List.append_nil]) ⟨Bx.mem hb, rfl, ⟨_, by wtm_at "w", rfl⟩, rfl, Bx.mem hb, rfl, ⟨_, by wtm_at "w", rfl⟩, trivial⟩ (by decide +kernel)
  . exact Bad.ks B b.nm ["=", ((toString (n : Int) : Str) ++ ","), b.nm, "=", (toString (n : Int) : Str)] [.nm, .li "=", .od, .nm, .li "=", .nu] (by simp only [gQ, fw, ct17, ct2, ct86, ct87, List.append_assoc, List.cons_append, List.nil_append, List.append_nil]) ⟨Bx.mem hb, rfl, sX (c := 44) (by simp only [gQ, ct86, List.mem_append, List.mem_cons, List.not_mem_nil, true_or, or_true]) (by decide) (qX (Wd.no (by wtm_at "w")) (rX ct86 rfl)), Bx.mem hb, rfl, ⟨_, by wtm_at "w", rfl⟩, trivial⟩ (by decide +kernel)
  . exact Bad.ks B b.nm ["=", (toString (n : Int) : Str), ";", b.nm, "=", (toString (n : Int) : Str)] [.nm, .li "=", .nu, .li ";", .nm, .li "=", .nu] (by simp only [gQ, fw, ct17, ct2, ct67, ct88, List.append_assoc, List.cons_append, List.nil_append, List.append_nil]) ⟨Bx.mem hb, rfl, ⟨_, by wtm_at "w", rfl⟩, rfl, Bx.mem hb, rfl, ⟨_, by wtm_at "w", rfl⟩, trivial⟩ (by decide +kernel)
  . exact Bad.ks B b.nm ["rest", "2", "=", "0;", b.nm, "=", (toString (n : Int) : Str)] [.nm, .li "rest", .li "2", .li "=", .li "0;", .nm, .li "=", .nu] (by simp only [gQ, fw, ct17, ct2, ct53, ct8, ct89, ct90, List.append_assoc, List.cons_append, List.nil_append, List.append_nil]) ⟨Bx.mem hb, rfl, rfl, rfl, rfl, Bx.mem hb, rfl, ⟨_, by wtm_at "w", rfl⟩, trivial⟩ (by decide +kernel)
def thrsL (a b c : Str) : List Str := [((((b ++ " + ") ++ a) ++ " = ") ++ c), ((((b ++ " * ") ++ a) ++ " = ") ++ c), ((((a ++ " - ") ++ b) ++ " = ") ++ c), ((((a ++ " / ") ++ b) ++ " = ") ++ c), ((((a ++ " + ") ++ b) ++ " < ") ++ c), ((((a ++ " + ") ++ b) ++ " + ") ++ c), ((((a ++ " < ") ++ b) ++ " < ") ++ c), ((((a ++ " = ") ++ b) ++ " ") ++ c), ((((c ++ " = ") ++ a) ++ " + ") ++ b), ((((c ++ " = ") ++ a) ++ " * ") ++ b), ((((a ++ " = ") ++ b) ++ " - ") ++ c), ((((a ++ " = ") ++ c) ++ " - ") ++ b), ((((((((a ++ " + ") ++ b) ++ " = ") ++ c) ++ "; ") ++ a) ++ " < ") ++ b), (((((a ++ " + ") ++ b) ++ " + ") ++ c) ++ " = 3")]
theorem thrs_bad {bs : List Box} (B : Bx bs) {i j : Nat} {a b : Box} (ha : bs[i]? = some a) (hb : bs[j]? = some b) (hij : i < j) {k : Nat} {c : Box} (hc : bs[k]? = some c) (hki : k ≠ i) (hkj : k ≠ j) : ∀ z ∈ thrsL a.nm b.nm c.nm, Bad bs z := by
  refine mem2 ?_ (mem2 ?_ (mem2 ?_ (mem2 ?_ (mem2 ?_ (mem2 ?_ (mem2 ?_ (mem2 ?_ (mem2 ?_ (mem2 ?_ (mem2 ?_ (mem2 ?_ (mem2 ?_ (mem2 ?_ (mem0))))))))))))))
  . exact bd_adds B hb ha hc (by simp only [gQ, fw, ct17, ct2, ct41, ct42, List.append_assoc, List.cons_append, List.nil_append, List.append_nil]) (by omega)
  . exact mU B hb ha hc (by simp only [gQ, fw, ct17, ct2, ct46, ct47, List.append_assoc, List.cons_append, List.nil_append, List.append_nil]) (by omega)
  . exact Bad.ks B a.nm ["-", b.nm, "=", c.nm] [.nm, .li "-", .nm, .li "=", .nm] (by simp only [gQ, fw, ct17, ct2, ct35, ct37, List.append_assoc, List.cons_append, List.nil_append, List.append_nil]) ⟨Bx.mem ha, rfl, Bx.mem hb, rfl, Bx.mem hc, trivial⟩ (by decide +kernel)
  . exact Bad.ks B a.nm ["/", b.nm, "=", c.nm] [.nm, .li "/", .nm, .li "=", .nm] (by simp only [gQ, fw, ct17, ct2, ct91, ct92, List.append_assoc, List.cons_append, List.nil_append, List.append_nil]) ⟨Bx.mem ha, rfl, Bx.mem hb, rfl, Bx.mem hc, trivial⟩ (by decide +kernel)
  . exact Bad.ks B a.nm ["+", b.nm, "<", c.nm] [.nm, .li "+", .nm, .li "<", .nm] (by simp only [gQ, fw, ct28, ct29, ct41, ct42, List.append_assoc, List.cons_append, List.nil_append, List.append_nil]) ⟨Bx.mem ha, rfl, Bx.mem hb, rfl, Bx.mem hc, trivial⟩ (by decide +kernel)
  . exact Bad.ks B a.nm ["+", b.nm, "+", c.nm] [.nm, .li "+", .nm, .li "+", .nm] (by simp only [gQ, fw, ct41, ct42, List.append_assoc, List.cons_append, List.nil_append, List.append_nil]) ⟨Bx.mem ha, rfl, Bx.mem hb, rfl, Bx.mem hc, trivial⟩ (by decide +kernel)
  . exact Bad.ks B a.nm ["<", b.nm, "<", c.nm] [.nm, .li "<", .nm, .li "<", .nm] (by simp only [gQ, fw, ct28, ct29, List.append_assoc, List.cons_append, List.nil_append, List.append_nil]) ⟨Bx.mem ha, rfl, Bx.mem hb, rfl, Bx.mem hc, trivial⟩ (by decide +kernel)
  . exact Bad.ks B a.nm ["=", b.nm, c.nm] [.nm, .li "=", .nm, .nm] (by simp only [gQ, fw, ct0, ct17, ct2, List.append_assoc, List.cons_append, List.nil_append, List.append_nil]) ⟨Bx.mem ha, rfl, Bx.mem hb, Bx.mem hc, trivial⟩ (by decide +kernel)
  . exact Bad.ks B c.nm ["=", a.nm, "+", b.nm] [.nm, .li "=", .nm, .li "+", .nm] (by simp only [gQ, fw, ct17, ct2, ct41, ct42, List.append_assoc, List.cons_append, List.nil_append, List.append_nil]) ⟨Bx.mem hc, rfl, Bx.mem ha, rfl, Bx.mem hb, trivial⟩ (by decide +kernel)
  . exact Bad.ks B c.nm ["=", a.nm, "*", b.nm] [.nm, .li "=", .nm, .li "*", .nm] (by simp only [gQ, fw, ct17, ct2, ct46, ct47, List.append_assoc, List.cons_append, List.nil_append, List.append_nil]) ⟨Bx.mem hc, rfl, Bx.mem ha, rfl, Bx.mem hb, trivial⟩ (by decide +kernel)
  . exact Bad.ks B a.nm ["=", b.nm, "-", c.nm] [.nm, .li "=", .nm, .li "-", .nm] (by simp only [gQ, fw, ct17, ct2, ct35, ct37, List.append_assoc, List.cons_append, List.nil_append, List.append_nil]) ⟨Bx.mem ha, rfl, Bx.mem hb, rfl, Bx.mem hc, trivial⟩ (by decide +kernel)
  . exact Bad.ks B a.nm ["=", c.nm, "-", b.nm] [.nm, .li "=", .nm, .li "-", .nm] (by simp only [gQ, fw, ct17, ct2, ct35, ct37, List.append_assoc, List.cons_append, List.nil_append, List.append_nil]) ⟨Bx.mem ha, rfl, Bx.mem hc, rfl, Bx.mem hb, trivial⟩ (by decide +kernel)
  . exact Bad.ks B a.nm ["+", b.nm, "=", (c.nm ++ ";"), a.nm, "<", b.nm] [.nm, .li "+", .nm, .li "=", .od, .nm, .li "<", .nm] (by simp only [gQ, fw, ct17, ct2, ct28, ct29, ct41, ct42, ct67, ct68, List.append_assoc, List.cons_append, List.nil_append, List.append_nil]) ⟨Bx.mem ha, rfl, Bx.mem hb, rfl, sX (c := 59) (by simp only [gQ, ct67, List.mem_append, List.mem_cons, List.not_mem_nil, true_or, or_true]) (by decide) (qX (B.no hc) (rX ct67 rfl)), Bx.mem ha, rfl, Bx.mem hb, trivial⟩ (by decide +kernel)
  . exact Bad.ks B a.nm ["+", b.nm, "+", c.nm, "=", "3"] [.nm, .li "+", .nm, .li "+", .nm, .li "=", .li "3"] (by simp only [gQ, fw, ct2, ct39, ct40, ct41, ct42, List.append_assoc, List.cons_append, List.nil_append, List.append_nil]) ⟨Bx.mem ha, rfl, Bx.mem hb, rfl, Bx.mem hc, rfl, rfl, trivial⟩ (by decide +kernel)
def strsL (odd a lastn : Str) : List Str := [(odd ++ " = 1"), ((odd ++ " < ") ++ a), ((a ++ " = ") ++ odd), ((a ++ " <= ") ++ odd), (odd ++ " rest 2 = 0"), (odd ++ " in 0 1"), (((a ++ " - ") ++ odd) ++ " = 1"), (((a ++ " + ") ++ odd) ++ " = 1"), (((odd ++ " - ") ++ a) ++ " = 1"), (odd ++ " not 0"), ((((lastn ++ " + ") ++ odd) ++ " = ") ++ a), ((((a ++ " * ") ++ lastn) ++ " = ") ++ odd), ((((odd ++ " * ") ++ a) ++ " = ") ++ a)]
theorem strs_bad {bs : List Box} (B : Bx bs) {i j : Nat} {a b : Box} (ha : bs[i]? = some a) (hb : bs[j]? = some b) {odd : Str} (hodd : Rk (bs.map Box.nm) .st odd) : ∀ z ∈ strsL odd a.nm b.nm, Bad bs z := by
  refine mem2 ?_ (mem2 ?_ (mem2 ?_ (mem2 ?_ (mem2 ?_ (mem2 ?_ (mem2 ?_ (mem2 ?_ (mem2 ?_ (mem2 ?_ (mem2 ?_ (mem2 ?_ (mem2 ?_ (mem0)))))))))))))
  . exact Bad.ks B odd ["=", "1"] [.st, .li "=", .li "1"] (by simp only [gQ, fw, ct2, ct49, ct9, List.append_assoc, List.cons_append, List.nil_append, List.append_nil]) ⟨hodd, rfl, rfl, trivial⟩ (by decide +kernel)
  . exact Bad.ks B odd ["<", a.nm] [.st, .li "<", .nm] (by simp only [gQ, fw, ct28, ct29, List.append_assoc, List.cons_append, List.nil_append, List.append_nil]) ⟨hodd, rfl, Bx.mem ha, trivial⟩ (by decide +kernel)
  . exact Bad.ks B a.nm ["=", odd] [.nm, .li "=", .st] (by simp only [gQ, fw, ct17, ct2, List.append_assoc, List.cons_append, List.nil_append, List.append_nil]) ⟨Bx.mem ha, rfl, hodd, trivial⟩ (by decide +kernel)
  . exact Bad.ks B a.nm ["<=", odd] [.nm, .li "<=", .st] (by simp only [gQ, fw, ct30, ct6, List.append_assoc, List.cons_append, List.nil_append, List.append_nil]) ⟨Bx.mem ha, rfl, hodd, trivial⟩ (by decide +kernel)
  . exact Bad.ks B odd ["rest", "2", "=", "0"] [.st, .li "rest", .li "2", .li "=", .li "0"] (by simp only [gQ, fw, ct10, ct2, ct53, ct8, ct80, List.append_assoc, List.cons_append, List.nil_append, List.append_nil]) ⟨hodd, rfl, rfl, rfl, rfl, trivial⟩ (by decide +kernel)
  . exact Bad.ks B odd ["in", "0", "1"] [.st, .li "in", .li "0", .li "1"] (by simp only [gQ, fw, ct10, ct21, ct9, ct93, List.append_assoc, List.cons_append, List.nil_append, List.append_nil]) ⟨hodd, rfl, rfl, rfl, trivial⟩ (by decide +kernel)
  . exact Bad.ks B a.nm ["-", odd, "=", "1"] [.nm, .li "-", .st, .li "=", .li "1"] (by simp only [gQ, fw, ct2, ct35, ct37, ct49, ct9, List.append_assoc, List.cons_append, List.nil_append, List.append_nil]) ⟨Bx.mem ha, rfl, hodd, rfl, rfl, trivial⟩ (by decide +kernel)
  . exact Bad.ks B a.nm ["+", odd, "=", "1"] [.nm, .li "+", .st, .li "=", .li "1"] (by simp only [gQ, fw, ct2, ct41, ct42, ct49, ct9, List.append_assoc, List.cons_append, List.nil_append, List.append_nil]) ⟨Bx.mem ha, rfl, hodd, rfl, rfl, trivial⟩ (by decide +kernel)
  . exact Bad.ks B odd ["-", a.nm, "=", "1"] [.st, .li "-", .nm, .li "=", .li "1"] (by simp only [gQ, fw, ct2, ct35, ct37, ct49, ct9, List.append_assoc, List.cons_append, List.nil_append, List.append_nil]) ⟨hodd, rfl, Bx.mem ha, rfl, rfl, trivial⟩ (by decide +kernel)
  . exact Bad.ks B odd ["not", "0"] [.st, .li "not", .li "0"] (by simp only [gQ, fw, ct10, ct23, ct94, List.append_assoc, List.cons_append, List.nil_append, List.append_nil]) ⟨hodd, rfl, rfl, trivial⟩ (by decide +kernel)
  . exact Bad.ks B b.nm ["+", odd, "=", a.nm] [.nm, .li "+", .st, .li "=", .nm] (by simp only [gQ, fw, ct17, ct2, ct41, ct42, List.append_assoc, List.cons_append, List.nil_append, List.append_nil]) ⟨Bx.mem hb, rfl, hodd, rfl, Bx.mem ha, trivial⟩ (by decide +kernel)
  . exact Bad.ks B a.nm ["*", b.nm, "=", odd] [.nm, .li "*", .nm, .li "=", .st] (by simp only [gQ, fw, ct17, ct2, ct46, ct47, List.append_assoc, List.cons_append, List.nil_append, List.append_nil]) ⟨Bx.mem ha, rfl, Bx.mem hb, rfl, hodd, trivial⟩ (by decide +kernel)
  . exact Bad.ks B odd ["*", a.nm, "=", a.nm] [.st, .li "*", .nm, .li "=", .nm] (by simp only [gQ, fw, ct17, ct2, ct46, ct47, List.append_assoc, List.cons_append, List.nil_append, List.append_nil]) ⟨hodd, rfl, Bx.mem ha, rfl, Bx.mem ha, trivial⟩ (by decide +kernel)
def figsL (s nines : Str) : List Str := [("0" ++ s), ("+" ++ s), ("--" ++ s), "-0", "00", (s ++ "_0"), ("0_" ++ s), "1000", "-1000", (s ++ ".0"), nines, ("-0" ++ s), ("- " ++ s), (s ++ "-"), "0x1", (s ++ ","), "One", "-"]
theorem figo0 {bs : List Box} (B : Bx bs) {a : Nat} {b : Box} (hb : bs[a]? = some b) {n : Int} (n0 : b.lo <= n) (n1 : n <= b.hi) (l0 : -99 <= b.lo) (l1 : b.hi <= 99) {w : Str} (hw : Rk (bs.map Box.nm) .od w) : Bad bs ((b.nm ++ " = ") ++ w) := by
  exact Bad.ks B b.nm ["=", w] [.nm, .li "=", .od] (by simp only [gQ, fw, ct17, ct2, List.append_assoc, List.cons_append, List.nil_append, List.append_nil]) ⟨Bx.mem hb, rfl, hw, trivial⟩ (by decide +kernel)
theorem figb0 {bs : List Box} (B : Bx bs) {a : Nat} {b : Box} (hb : bs[a]? = some b) {n : Int} (n0 : b.lo <= n) (n1 : n <= b.hi) (l0 : -99 <= b.lo) (l1 : b.hi <= 99) {m : Int} (m0 : 0 <= m) (m1 : m <= 99) : Bad bs ((b.nm ++ " = ") ++ ("- " ++ (toString (m : Int) : Str))) := by
  exact Bad.ks B b.nm ["=", "-", (toString (m : Int) : Str)] [.nm, .li "=", .li "-", .nu] (by simp only [gQ, fw, ct17, ct2, ct37, ct95, List.append_assoc, List.cons_append, List.nil_append, List.append_nil]) ⟨Bx.mem hb, rfl, rfl, ⟨_, by wtm_at "w", rfl⟩, trivial⟩ (by decide +kernel)
theorem figo1 {bs : List Box} (B : Bx bs) {a : Nat} {b : Box} (hb : bs[a]? = some b) {n : Int} (n0 : b.lo <= n) (n1 : n <= b.hi) (l0 : -99 <= b.lo) (l1 : b.hi <= 99) {w : Str} (hw : Rk (bs.map Box.nm) .od w) : Bad bs ((b.nm ++ " >= ") ++ w) := by
  exact Bad.ks B b.nm [">=", w] [.nm, .li ">=", .od] (by simp only [gQ, fw, ct31, ct4, List.append_assoc, List.cons_append, List.nil_append, List.append_nil]) ⟨Bx.mem hb, rfl, hw, trivial⟩ (by decide +kernel)
theorem figb1 {bs : List Box} (B : Bx bs) {a : Nat} {b : Box} (hb : bs[a]? = some b) {n : Int} (n0 : b.lo <= n) (n1 : n <= b.hi) (l0 : -99 <= b.lo) (l1 : b.hi <= 99) {m : Int} (m0 : 0 <= m) (m1 : m <= 99) : Bad bs ((b.nm ++ " >= ") ++ ("- " ++ (toString (m : Int) : Str))) := by
  exact Bad.ks B b.nm [">=", "-", (toString (m : Int) : Str)] [.nm, .li ">=", .li "-", .nu] (by simp only [gQ, fw, ct31, ct37, ct4, ct95, List.append_assoc, List.cons_append, List.nil_append, List.append_nil]) ⟨Bx.mem hb, rfl, rfl, ⟨_, by wtm_at "w", rfl⟩, trivial⟩ (by decide +kernel)
theorem figo2 {bs : List Box} (B : Bx bs) {a : Nat} {b : Box} (hb : bs[a]? = some b) {n : Int} (n0 : b.lo <= n) (n1 : n <= b.hi) (l0 : -99 <= b.lo) (l1 : b.hi <= 99) {w : Str} (hw : Rk (bs.map Box.nm) .od w) : Bad bs ((b.nm ++ " <= ") ++ w) := by
  exact Bad.ks B b.nm ["<=", w] [.nm, .li "<=", .od] (by simp only [gQ, fw, ct30, ct6, List.append_assoc, List.cons_append, List.nil_append, List.append_nil]) ⟨Bx.mem hb, rfl, hw, trivial⟩ (by decide +kernel)
theorem figb2 {bs : List Box} (B : Bx bs) {a : Nat} {b : Box} (hb : bs[a]? = some b) {n : Int} (n0 : b.lo <= n) (n1 : n <= b.hi) (l0 : -99 <= b.lo) (l1 : b.hi <= 99) {m : Int} (m0 : 0 <= m) (m1 : m <= 99) : Bad bs ((b.nm ++ " <= ") ++ ("- " ++ (toString (m : Int) : Str))) := by
  exact Bad.ks B b.nm ["<=", "-", (toString (m : Int) : Str)] [.nm, .li "<=", .li "-", .nu] (by simp only [gQ, fw, ct30, ct37, ct6, ct95, List.append_assoc, List.cons_append, List.nil_append, List.append_nil]) ⟨Bx.mem hb, rfl, rfl, ⟨_, by wtm_at "w", rfl⟩, trivial⟩ (by decide +kernel)
theorem figo3 {bs : List Box} (B : Bx bs) {a : Nat} {b : Box} (hb : bs[a]? = some b) {n : Int} (n0 : b.lo <= n) (n1 : n <= b.hi) (l0 : -99 <= b.lo) (l1 : b.hi <= 99) {w : Str} (hw : Rk (bs.map Box.nm) .od w) : Bad bs ((b.nm ++ " not ") ++ w) := by
  exact Bad.ks B b.nm ["not", w] [.nm, .li "not", .od] (by simp only [gQ, fw, ct23, ct34, List.append_assoc, List.cons_append, List.nil_append, List.append_nil]) ⟨Bx.mem hb, rfl, hw, trivial⟩ (by decide +kernel)
theorem figb3 {bs : List Box} (B : Bx bs) {a : Nat} {b : Box} (hb : bs[a]? = some b) {n : Int} (n0 : b.lo <= n) (n1 : n <= b.hi) (l0 : -99 <= b.lo) (l1 : b.hi <= 99) {m : Int} (m0 : 0 <= m) (m1 : m <= 99) : Bad bs ((b.nm ++ " not ") ++ ("- " ++ (toString (m : Int) : Str))) := by
  exact Bad.ks B b.nm ["not", "-", (toString (m : Int) : Str)] [.nm, .li "not", .li "-", .nu] (by simp only [gQ, fw, ct23, ct34, ct37, ct95, List.append_assoc, List.cons_append, List.nil_append, List.append_nil]) ⟨Bx.mem hb, rfl, rfl, ⟨_, by wtm_at "w", rfl⟩, trivial⟩ (by decide +kernel)
theorem figo4 {bs : List Box} (B : Bx bs) {a : Nat} {b : Box} (hb : bs[a]? = some b) {n : Int} (n0 : b.lo <= n) (n1 : n <= b.hi) (l0 : -99 <= b.lo) (l1 : b.hi <= 99) {w : Str} (hw : Rk (bs.map Box.nm) .od w) : Bad bs ((b.nm ++ " rest 2 = ") ++ w) := by
  exact Bad.ks B b.nm ["rest", "2", "=", w] [.nm, .li "rest", .li "2", .li "=", .od] (by simp only [gQ, fw, ct2, ct52, ct53, ct8, List.append_assoc, List.cons_append, List.nil_append, List.append_nil]) ⟨Bx.mem hb, rfl, rfl, rfl, hw, trivial⟩ (by decide +kernel)
theorem figb4 {bs : List Box} (B : Bx bs) {a : Nat} {b : Box} (hb : bs[a]? = some b) {n : Int} (n0 : b.lo <= n) (n1 : n <= b.hi) (l0 : -99 <= b.lo) (l1 : b.hi <= 99) {m : Int} (m0 : 0 <= m) (m1 : m <= 99) : Bad bs ((b.nm ++ " rest 2 = ") ++ ("- " ++ (toString (m : Int) : Str))) := by
  exact Bad.ks B b.nm ["rest", "2", "=", "-", (toString (m : Int) : Str)] [.nm, .li "rest", .li "2", .li "=", .li "-", .nu] (by simp only [gQ, fw, ct2, ct37, ct52, ct53, ct8, ct95, List.append_assoc, List.cons_append, List.nil_append, List.append_nil]) ⟨Bx.mem hb, rfl, rfl, rfl, rfl, ⟨_, by wtm_at "w", rfl⟩, trivial⟩ (by decide +kernel)
theorem figo5 {bs : List Box} (B : Bx bs) {a : Nat} {b : Box} (hb : bs[a]? = some b) {n : Int} (n0 : b.lo <= n) (n1 : n <= b.hi) (l0 : -99 <= b.lo) (l1 : b.hi <= 99) {w : Str} (hw : Rk (bs.map Box.nm) .od w) : Bad bs ((b.nm ++ " in ") ++ ((w ++ " ") ++ (toString (n : Int) : Str))) := by
  exact Bad.ks B b.nm ["in", w, (toString (n : Int) : Str)] [.nm, .li "in", .od, .nu] (by simp only [gQ, fw, ct0, ct21, ct48, List.append_assoc, List.cons_append, List.nil_append, List.append_nil]) ⟨Bx.mem hb, rfl, hw, ⟨_, by wtm_at "w", rfl⟩, trivial⟩ (by decide +kernel)
theorem figb5 {bs : List Box} (B : Bx bs) {a : Nat} {b : Box} (hb : bs[a]? = some b) {n : Int} (n0 : b.lo <= n) (n1 : n <= b.hi) (l0 : -99 <= b.lo) (l1 : b.hi <= 99) {m : Int} (m0 : 0 <= m) (m1 : m <= 99) : Bad bs ((b.nm ++ " in ") ++ ((("- " ++ (toString (m : Int) : Str)) ++ " ") ++ (toString (n : Int) : Str))) := by
  exact Bad.ks B b.nm ["in", "-", (toString (m : Int) : Str), (toString (n : Int) : Str)] [.nm, .li "in", .li "-", .nu, .nu] (by simp only [gQ, fw, ct0, ct21, ct37, ct48, ct95, List.append_assoc, List.cons_append, List.nil_append, List.append_nil]) ⟨Bx.mem hb, rfl, rfl, ⟨_, by wtm_at "w", rfl⟩, ⟨_, by wtm_at "w", rfl⟩, trivial⟩ (by decide +kernel)
theorem figo6 {bs : List Box} (B : Bx bs) {a : Nat} {b : Box} (hb : bs[a]? = some b) {n : Int} (n0 : b.lo <= n) (n1 : n <= b.hi) (l0 : -99 <= b.lo) (l1 : b.hi <= 99) {w : Str} (hw : Rk (bs.map Box.nm) .od w) : Bad bs ((b.nm ++ " in ") ++ (((toString (n : Int) : Str) ++ " ") ++ w)) := by
  exact Bad.ks B b.nm ["in", (toString (n : Int) : Str), w] [.nm, .li "in", .nu, .od] (by simp only [gQ, fw, ct0, ct21, ct48, List.append_assoc, List.cons_append, List.nil_append, List.append_nil]) ⟨Bx.mem hb, rfl, ⟨_, by wtm_at "w", rfl⟩, hw, trivial⟩ (by decide +kernel)
theorem figb6 {bs : List Box} (B : Bx bs) {a : Nat} {b : Box} (hb : bs[a]? = some b) {n : Int} (n0 : b.lo <= n) (n1 : n <= b.hi) (l0 : -99 <= b.lo) (l1 : b.hi <= 99) {m : Int} (m0 : 0 <= m) (m1 : m <= 99) : Bad bs ((b.nm ++ " in ") ++ (((toString (n : Int) : Str) ++ " ") ++ ("- " ++ (toString (m : Int) : Str)))) := by
  exact Bad.ks B b.nm ["in", (toString (n : Int) : Str), "-", (toString (m : Int) : Str)] [.nm, .li "in", .nu, .li "-", .nu] (by simp only [gQ, fw, ct0, ct21, ct37, ct48, ct95, List.append_assoc, List.cons_append, List.nil_append, List.append_nil]) ⟨Bx.mem hb, rfl, ⟨_, by wtm_at "w", rfl⟩, rfl, ⟨_, by wtm_at "w", rfl⟩, trivial⟩ (by decide +kernel)
theorem figo7 {bs : List Box} (B : Bx bs) {a : Nat} {b : Box} (hb : bs[a]? = some b) {n : Int} (n0 : b.lo <= n) (n1 : n <= b.hi) (l0 : -99 <= b.lo) (l1 : b.hi <= 99) {w : Str} (hw : Rk (bs.map Box.nm) .od w) : Bad bs (((b.nm ++ " rest ") ++ w) ++ " = 0") := by
  exact Bad.ks B b.nm ["rest", w, "=", "0"] [.nm, .li "rest", .od, .li "=", .li "0"] (by simp only [gQ, fw, ct10, ct2, ct50, ct51, ct8, List.append_assoc, List.cons_append, List.nil_append, List.append_nil]) ⟨Bx.mem hb, rfl, hw, rfl, rfl, trivial⟩ (by decide +kernel)
theorem figb7 {bs : List Box} (B : Bx bs) {a : Nat} {b : Box} (hb : bs[a]? = some b) {n : Int} (n0 : b.lo <= n) (n1 : n <= b.hi) (l0 : -99 <= b.lo) (l1 : b.hi <= 99) {m : Int} (m0 : 0 <= m) (m1 : m <= 99) : Bad bs (((b.nm ++ " rest ") ++ ("- " ++ (toString (m : Int) : Str))) ++ " = 0") := by
  exact Bad.ks B b.nm ["rest", "-", (toString (m : Int) : Str), "=", "0"] [.nm, .li "rest", .li "-", .nu, .li "=", .li "0"] (by simp only [gQ, fw, ct10, ct2, ct37, ct50, ct51, ct8, ct95, List.append_assoc, List.cons_append, List.nil_append, List.append_nil]) ⟨Bx.mem hb, rfl, rfl, ⟨_, by wtm_at "w", rfl⟩, rfl, rfl, trivial⟩ (by decide +kernel)
theorem od_size0 : ∀ m ∈ List.range 100, odB (cs (("0" : Str) ++ (toString ((m : Nat) : Int) : Str))) = true := by decide +kernel
theorem od_size1 : ∀ m ∈ List.range 100, odB (cs (("--" : Str) ++ (toString ((m : Nat) : Int) : Str))) = true := by decide +kernel
theorem od_size2 : ∀ m ∈ List.range 100, odB (cs (("-0" : Str) ++ (toString ((m : Nat) : Int) : Str))) = true := by decide +kernel
theorem od_size3 : ∀ m ∈ List.range 100, odB (cs ((toString ((m : Nat) : Int) : Str) ++ ("-" : Str))) = true := by decide +kernel
theorem od_size4 : ∀ m ∈ List.range 100, odB (cs (("+" : Str) ++ (toString ((m : Nat) : Int) : Str))) = true := by decide +kernel
theorem od_size5 : ∀ m ∈ List.range 100, odB (cs ((toString ((m : Nat) : Int) : Str) ++ ("_0" : Str))) = true := by decide +kernel
theorem od_size6 : ∀ m ∈ List.range 100, odB (cs (("0_" : Str) ++ (toString ((m : Nat) : Int) : Str))) = true := by decide +kernel
theorem od_size7 : ∀ m ∈ List.range 100, odB (cs ((toString ((m : Nat) : Int) : Str) ++ (".0" : Str))) = true := by decide +kernel
theorem od_size8 : ∀ m ∈ List.range 100, odB (cs ((toString ((m : Nat) : Int) : Str) ++ ("," : Str))) = true := by decide +kernel
theorem up_one : ∀ d ∈ List.range' 97 26, Unicode.upperOf d = [d - 32] := by decide +kernel
theorem up_of {d : Nat} (h : 97 <= d /\ d <= 122) : Unicode.upperOf d = [d - 32] := up_one d (by rw [List.mem_range'_1]; omega)
theorem up_mem {x : Str} (hl : Low x) {c : Nat} : c ∈ cs (Txt.upper x) ↔ ∃ d ∈ cs x, c = d - 32 := by
  show c ∈ ((x.cps.mapIdx fun _ c => (Unicode.upperOf c).toArray).flatten).toList ↔ _
  rw [Array.mem_toList_iff, Array.mem_flatten]
  constructor
  . rintro ⟨ys, hy, hc⟩
    obtain ⟨i, hi, e⟩ := Array.mem_mapIdx.mp hy
    have hm : x.cps[i] ∈ cs x := Array.mem_toList_iff.mpr (Array.getElem_mem hi)
    refine ⟨_, hm, ?_⟩
    rw [<- e, up_of (hl _ hm)] at hc
    simpa using hc
  . rintro ⟨d, hd, e⟩
    obtain ⟨i, hi, hx⟩ := Array.getElem_of_mem (Array.mem_toList_iff.mp hd)
    refine ⟨_, Array.mem_mapIdx.mpr ⟨i, hi, rfl⟩, ?_⟩
    rw [hx, up_of (hl _ hd), e]
    simp
theorem od_up {nms : List Str} {x : Str} (h : NameOk x) : Rk nms .od (Txt.upper x) := by
  have h1 := h.l1
  have hl := h.low
  obtain ⟨d, hd⟩ : ∃ d, d ∈ cs x := by
    have := vZ x
    cases e : cs x with
    | nil => rw [e] at this; simp at this; omega
    | cons a b => exact ⟨a, List.mem_cons_self⟩
  have hd2 := hl d hd
  refine sX (c := d - 32) ((up_mem hl).mpr ⟨d, hd, rfl⟩) ?_ fun c hc e => ?_
  . simp only [Bool.or_eq_false_iff, Bool.and_eq_false_iff, decide_eq_false_iff_not]
    omega
  . obtain ⟨d', hd', e'⟩ := (up_mem hl).mp hc
    have := hl d' hd'
    omega
theorem od_nines {nms : List Str} {z : Str} {k : Nat} (h : z.cps.toList = List.replicate k 57) (hk : 4 <= k) : Rk nms .od z := by
  have e : cs z = List.replicate k 57 := h
  obtain ⟨m, rfl⟩ : ∃ m, k = m + 1 := ⟨k - 1, by omega⟩
  refine ⟨?_, ?_, fun c hc => ?_⟩
  . rw [e]; unfold lowL; rw [List.replicate_succ]; simp
  . rw [e]
    have : smL (List.replicate (m + 1) 57) = digL (List.replicate (m + 1) 57) := by rw [List.replicate_succ]; rfl
    rw [this]
    unfold digL
    rw [List.length_replicate, decide_eq_false (by omega : ¬ m + 1 <= 3)]
    simp
  . rw [e] at hc
    have := (List.mem_replicate.mp hc).2
    omega
theorem figs_od {nms : List Str} {m : Int} (m0 : 0 <= m) (m1 : m <= 99) {nines : Str} (hn : Rk nms .od nines) : ∀ w ∈ figsL (toString m) nines, Rk nms .od w \/ w = ("- " : Str) ++ (toString m : Str) := by
  obtain ⟨k, rfl⟩ := Int.eq_ofNat_of_zero_le m0
  have hk : k ∈ List.range 100 := List.mem_range.mpr (by omega)
  refine mem2 (P := fun w => Rk nms .od w \/ w = ("- " : Str) ++ (toString ((k : Nat) : Int) : Str)) (.inl (zX (od_size0 k hk))) (mem2 (.inl (zX (od_size4 k hk))) (mem2 (.inl (zX (od_size1 k hk))) (mem2 (.inl (zX (by decide +kernel))) (mem2 (.inl (zX (by decide +kernel))) (mem2 (.inl (zX (od_size5 k hk))) (mem2 (.inl (zX (od_size6 k hk))) (mem2 (.inl (zX (by decide +kernel))) (mem2 (.inl (zX (by decide +kernel))) (mem2 (.inl (zX (od_size7 k hk))) (mem2 (.inl hn) (mem2 (.inl (zX (od_size2 k hk))) (mem2 (.inr rfl) (mem2 (.inl (zX (od_size3 k hk))) (mem2 (.inl (zX (by decide +kernel))) (mem2 (.inl (zX (od_size8 k hk))) (mem2 (.inl (zX (by decide +kernel))) (mem2 (.inl (zX (by decide +kernel))) mem0)))))))))))))))))
abbrev oddL : List Str := ["q", "zz", "a", "rest", "boxes"]
theorem odd_st {nms : List Str} : ∀ x ∈ oddL, x ∉ nms -> Rk nms .st x := by
  have key : ∀ x ∈ oddL, lowL (cs x) = true /\ ((cs x).all fun c => c != 32) = true := by decide +kernel
  intro x hx hn
  exact ⟨hn, (key x hx).1, rX rfl (key x hx).2⟩
abbrev nI (b : Nat) : Option (Sum Nat Nat) := some (.inl b)
abbrev nS (b : Nat) : Option (Sum Nat Nat) := some (.inr b)
theorem nV {P : Str -> Prop} {xs ys : List Str} (h : ∀ z ∈ xs, P z) (g : ∀ z ∈ ys, P z) : ∀ z ∈ xs ++ ys, P z := fun z hz => by
  rcases List.mem_append.mp hz with h1 | h1
  . exact h z h1
  . exact g z h1
def spNumbers : Sp := fun vs H Q _ => ∃ (r : Addr) (lo hi : Int), vs = [.ref r, .int lo, .int hi] /\ PotAt H r /\ -99 <= lo /\ lo <= hi /\ hi <= 99 /\ ∀ (z : Str) (n m : Int) (H' : Hp), lo <= n -> n <= hi -> 2 <= m -> m <= 6 -> z ∈ numsL lo hi n m -> z.length <= 100000 -> But r H H' -> PotAt H' r -> Q (.str z) H'
section
variable {P : Program} {w : World} {K : PySem.W.Frag} {mg : Str -> Option Value} {base : Heap}
abbrev tsN : List (Option (Sum Nat Nat)) := [none, nI 99, nI 99, nI 99, nI 9, none]
theorem scNumbers : FnScope ["pot", "low", "high", "n", "m", "some"] ["pot", "low", "high"] (defScope sNumbers) := ⟨rfl, rfl, rfl, by decide +kernel, rfl, by decide +kernel, by decide +kernel⟩
theorem iO (h : Has K mg "_law_numbers" sNumbers ["pot", "low", "high"]) (B : Blt mg) (cN : Cal P w K mg base 1 "_law_next" ["pot", "many"] spNext) : Cal P w K mg base 2 "_law_numbers" ["pot", "low", "high"] spNumbers := by
  refine h.cal scNumbers (fun vs H Q E h => ?_) (fun f cdv A outer s H vs Q E hr h => ?_)
  . obtain ⟨r, _, _, rfl, _⟩ := h
    rfl
  obtain ⟨r, lo, hi, rfl, hP, l0, l1, l2, q⟩ := h
  have hr1 : Room 1 _ := hr
  refine ⟨_, (dQ (lQ (i := 3) scNumbers.nd rfl (Or.inl rfl) (pQ eZ (pv 1) (nQ cN hr1 rfl (aQ (pv 0) (aQ (pQ eZ (pQ iX (pv 2) (pv 1)) iQ) fQ)))))
    (dQ (lQ (i := 4) scNumbers.nd rfl (Or.inl rfl) (pQ eZ iQ (nQ cN hr1 rfl (aQ (pv 0) (aQ iQ fQ)))))
    (dQ (lQ (i := 5) scNumbers.nd rfl (Or.inl rfl) (qJ (D := DD tsN) (eQ (bQ cQ (xQ (bK (rZ 2) yJ) rfl B.str)) (eQ (bQ cQ (xQ (cK (rZ 1) yJ) rfl B.str)) (eQ (bQ cQ (xQ (rZ 1) rfl B.str)) (eQ (bQ cQ (xQ (bK (rZ 2) yJ) rfl B.str)) (eQ (bQ cQ (xQ (rZ 2) rfl B.str)) aZ)))))))
    (dQ (lQ (i := 5) scNumbers.nd rfl (Or.inl rfl) (jZ (D := DD tsN) (pv 5) (eQ (bQ cQ (xQ (cK (rZ 1) yJ) rfl B.str)) (eQ cQ (eQ (bQ cQ (xQ (rZ 4) rfl B.str)) (eQ cQ (eQ cQ aZ)))))))
    (dQ (lQ (i := 5) scNumbers.nd rfl (Or.inl rfl) (jZ (D := DD tsN) (pv 5) (eQ (bQ (bQ (bQ cQ (xQ (rZ 4) rfl B.str)) cQ) (xQ (rZ 4) rfl B.str)) (eQ (bQ (bQ cQ (xQ (rZ 4) rfl B.str)) cQ) (eQ (bQ (bQ (bQ cQ (xQ (rZ 3) rfl B.str)) cQ) (xQ (rZ 3) rfl B.str)) aZ)))))
    (dQ (lQ (i := 5) scNumbers.nd rfl (Or.inl rfl) (jZ (D := DD tsN) (pv 5) (eQ (bQ (bQ (bQ cQ (xQ (rZ 2) rfl B.str)) cQ) (xQ (rZ 1) rfl B.str)) (eQ (bQ (bQ (bQ cQ (xQ (cK (rZ 1) yJ) rfl B.str)) cQ) (xQ (rZ 3) rfl B.str)) (eQ (bQ cQ (xQ (cK (rZ 1) yJ) rfl B.str)) aZ)))))
    (dQ (lQ (i := 5) scNumbers.nd rfl (Or.inl rfl) (jZ (D := DD tsN) (pv 5) (eQ (bQ (bQ (bQ cQ (xQ (rZ 3) rfl B.str)) cQ) (xQ (bK (rZ 2) yJ) rfl B.str)) (eQ (bQ cQ (xQ (bK (rZ 2) yJ) rfl B.str)) (eQ cQ (eQ cQ aZ))))))
    (mQ (tQ (bZ vQ (pv 5) (nQ cN hr1 rfl (aQ (pv 0) (aQ iQ fQ))) (fun _ _ => rfl))))))))))), ?_⟩
  wtm_at "ss"
  refine ⟨r, hi - lo + 1, rfl, hP, yQ (by omega) (by omega), fun k H1 k0 k1 b1 P1 => ?_⟩
  wtm_at "ss"
  refine ⟨r, 5, rfl, P1, yQ (by decide) (by decide), fun m H2 m0 m1 b2 P2 => ?_⟩
  wtm_at "ss"
  have d : ∀ c : Option V, DD tsN [some (.ref r), some (.int lo), some (.int hi), some (.int (lo + k)), some (.int (2 + m)), c] := fun c => ⟨⟨_, rfl, by omega⟩, ⟨_, rfl, by omega⟩, ⟨_, rfl, by omega⟩, ⟨_, rfl, by omega⟩, trivial⟩
  refine ⟨d _, fun n3 p3 H3 s3 f3 h3 => ?_⟩
  refine ⟨_, rfl, _, _, rfl, h3, d _, Nat.le_of_ble_eq_true rfl, fun n4 p4 H4 s4 f4 h4 => ?_⟩
  refine ⟨_, rfl, _, _, rfl, h4, d _, Nat.le_of_ble_eq_true rfl, fun n5 p5 H5 s5 f5 h5 => ?_⟩
  refine ⟨_, rfl, _, _, rfl, h5, d _, Nat.le_of_ble_eq_true rfl, fun n6 p6 H6 s6 f6 h6 => ?_⟩
  refine ⟨_, rfl, _, _, rfl, h6, d _, Nat.le_of_ble_eq_true rfl, fun n7 p7 H7 s7 f7 h7 => ?_⟩
  have s27 := s3.trans (s4.trans (s5.trans (s6.trans s7)))
  have P7 := P2.mono s27
  have n7r : p7 ≠ r := (P2.mono (s3.trans (s4.trans (s5.trans s6)))).nn f7
  have ln : ∀ z ∈ numsL lo hi (lo + k) (2 + m), z.length <= 100000 := nV (nV (nV (nV n3 n4) n5) n6) n7
  have h7 : H7 p7 = some (.lst ((numsL lo hi (lo + k) (2 + m)).map V.str)) := h7
  refine ⟨_, rfl, _, rfl, r, 20, rfl, P7, yQ (by decide) (by decide), fun j H8 j0 j1 b8 P8 => ?_⟩
  obtain ⟨z, hz, e⟩ := sZ (zs := numsL lo hi (lo + k) (2 + m)) j0 j1
  exact ⟨p7, _, j, _, rfl, rfl, SqL.of (b8 _ _ n7r h7), e, q z (lo + k) (2 + m) H8 (by omega) (by omega) (by omega) (by omega) hz (ln z hz) (b1.trans (b2.trans ((But.of s27).trans b8))) P8⟩
end
def spWords : Sp := fun vs H Q _ => ∃ (r : Addr) (bs : List Box) (a : Nat) (b : Box), vs = [.ref r, .str b.nm, .int b.lo, .int b.hi] /\ PotAt H r /\ Bx bs /\ bs[a]? = some b /\ ∀ (z : Str) (H' : Hp), Bad bs z -> But r H H' -> PotAt H' r -> Q (.str z) H'
section
variable {P : Program} {w : World} {K : PySem.W.Frag} {mg : Str -> Option Value} {base : Heap}
abbrev tsW0 : List (Option (Sum Nat Nat)) := [none, nS 8, nI 99, nI 99, nI 99]
abbrev tsW : List (Option (Sum Nat Nat)) := [none, nS 8, nI 99, nI 99, nI 99, nS 2000]
abbrev tsW2 : List (Option (Sum Nat Nat)) := [none, nS 8, nI 99, nI 99, nI 99, nS 2000, none, nS 8]
theorem scWords : FnScope ["pot", "one", "low", "high", "n", "good", "some", "more"] ["pot", "one", "low", "high"] (defScope sWords) := ⟨rfl, rfl, rfl, by decide +kernel, rfl, by decide +kernel, by decide +kernel⟩
theorem ok_words (h : Has K mg "_law_words" sWords ["pot", "one", "low", "high"]) (B : Blt mg) (cN : Cal P w K mg base 1 "_law_next" ["pot", "many"] spNext) : Cal P w K mg base 2 "_law_words" ["pot", "one", "low", "high"] spWords := by
  refine h.cal scWords (fun vs H Q E h => ?_) (fun f cdv A outer s H vs Q E hr h => ?_)
  . obtain ⟨r, _, _, _, rfl, _⟩ := h
    rfl
  obtain ⟨r, bs, a, b, rfl, hP, X, hb, q⟩ := h
  have hr1 : Room 1 _ := hr
  refine ⟨_, (dQ (lQ (i := 4) scWords.nd rfl (Or.inl rfl) (pQ eZ (pv 2) (nQ cN hr1 rfl (aQ (pv 0) (aQ (pQ eZ (pQ iX (pv 3) (pv 2)) iQ) fQ)))))
    (dQ (lQ (i := 5) scWords.nd rfl (Or.inl rfl) (SS.ev (D := DD tsW0) ((bQ (bQ (kQ 1) cQ) (xQ (rZ 4) rfl B.str)))))
    (dQ (lQ (i := 6) scWords.nd rfl (Or.inl rfl) (qJ (D := DD tsW) (eQ cQ (eQ (kQ 1) (eQ cQ (eQ (bQ (kQ 1) cQ) (eQ (bQ (kQ 1) cQ) (eQ (bQ (bQ (kQ 5) cQ) (xQ (rZ 4) rfl B.str)) (eQ (bQ (bQ (kQ 5) cQ) (kQ 1)) (eQ (bQ (bQ (kQ 1) cQ) (xQ (rZ 4) rfl B.str)) aZ))))))))))
    (dQ (lQ (i := 6) scWords.nd rfl (Or.inl rfl) (jZ (D := DD tsW) (pv 6) (eQ (bQ (bQ (kQ 1) cQ) (xQ (rZ 4) rfl B.str)) (eQ (bQ (bQ (kQ 1) cQ) (xQ (rZ 4) rfl B.str)) (eQ (bQ (bQ (kQ 1) cQ) (xQ (rZ 4) rfl B.str)) (eQ (bQ (bQ (kQ 1) cQ) (xQ (rZ 4) rfl B.str)) aZ))))))
    (dQ (lQ (i := 6) scWords.nd rfl (Or.inl rfl) (jZ (D := DD tsW) (pv 6) (eQ (bQ (bQ (xQ (rZ 4) rfl B.str) cQ) (kQ 1)) (eQ (bQ (bQ (kQ 1) cQ) (xQ (rZ 4) rfl B.str)) (eQ (bQ (bQ (kQ 1) cQ) (xQ (rZ 4) rfl B.str)) (eQ (bQ cQ (kQ 5)) (eQ (bQ (kQ 5) cQ) aZ)))))))
    (dQ (lQ (i := 6) scWords.nd rfl (Or.inl rfl) (jZ (D := DD tsW) (pv 6) (eQ (bQ (kQ 5) cQ) (eQ (bQ cQ (kQ 5)) (eQ (bQ (bQ (kQ 1) cQ) (xQ (rZ 4) rfl B.str)) (eQ (bQ (bQ (bQ (bQ (kQ 1) cQ) (kQ 1)) cQ) (kQ 1)) (eQ (bQ cQ (xQ (rZ 4) rfl B.str)) aZ)))))))
    (dQ (lQ (i := 6) scWords.nd rfl (Or.inl rfl) (jZ (D := DD tsW) (pv 6) (eQ (bQ (bQ (ss_up (kQ 1)) cQ) (xQ (rZ 4) rfl B.str)) (eQ (bQ (bQ (kQ 1) cQ) (xQ (rZ 4) rfl B.str)) (eQ (bQ (bQ (kQ 1) cQ) (xQ (rZ 4) rfl B.str)) (eQ (bQ (bQ (kQ 1) cQ) (xQ (rZ 4) rfl B.str)) aZ))))))
    (dQ (lQ (i := 6) scWords.nd rfl (Or.inl rfl) (jZ (D := DD tsW) (pv 6) (eQ (bQ (kQ 1) cQ) (eQ (bQ (kQ 1) cQ) (eQ (bQ (kQ 1) cQ) (eQ (xQ (rZ 4) rfl B.str) (eQ (bQ (kQ 5) cQ) (eQ (bQ (kQ 1) cQ) aZ))))))))
    (dQ (lQ (i := 7) scWords.nd rfl (Or.inl rfl) (bZ vQ (kZ (aQ oQ (aQ oQ fQ))) (nQ cN hr1 rfl (aQ (pv 0) (aQ iQ fQ))) (fun _ _ => rfl)))
    (dQ (lQ (i := 6) scWords.nd rfl (Or.inl rfl) (jZ (D := DD tsW2) (pv 6) (eQ (bQ (bQ (kQ 5) cQ) (kQ 5)) (eQ (bQ (bQ (bQ (kQ 5) cQ) (kQ 1)) cQ) (eQ (bQ (bQ (bQ (bQ (kQ 5) cQ) (kQ 5)) cQ) (kQ 5)) aZ)))))
    (dQ (lQ (i := 6) scWords.nd rfl (Or.inl rfl) (jZ (D := DD tsW2) (pv 6) (eQ (bQ (bQ (bQ (xQ (rZ 4) rfl B.str) cQ) (kQ 1)) cQ) (eQ (bQ (bQ cQ (kQ 1)) cQ) (eQ (bQ (bQ (bQ (bQ (kQ 5) cQ) (kQ 7)) cQ) (kQ 5)) aZ)))))
    (dQ (lQ (i := 6) scWords.nd rfl (Or.inl rfl) (jZ (D := DD tsW2) (pv 6) (eQ (bQ (bQ (kQ 5) cQ) (kQ 5)) (eQ (bQ (bQ (kQ 5) cQ) (kQ 5)) (eQ (bQ (bQ (kQ 5) cQ) (kQ 5)) (eQ (bQ (bQ (kQ 1) cQ) (kQ 5)) aZ))))))
    (mQ (tQ (bZ vQ (pv 6) (nQ cN hr1 rfl (aQ (pv 0) (aQ iQ fQ))) (fun _ _ => rfl)))))))))))))))), ?_⟩
  have ok := X.ok b (List.mem_of_getElem? hb)
  have l0 := ok.lo
  have l1 := ok.hi
  have l2 := Int.le_trans ok.fl ok.fh
  have no := X.N.ok _ (Bx.mem hb)
  have n8 := no.l8
  wtm_at "ss"
  refine ⟨r, b.hi - b.lo + 1, rfl, hP, yQ (by omega) (by omega), fun k H1 k0 k1 b1 P1 => ?_⟩
  wtm_at "ss"
  have d0 : ∀ cs : List (Option V), DD tsW0 (some (.ref r) :: some (.str b.nm) :: some (.int b.lo) :: some (.int b.hi) :: some (.int (b.lo + k)) :: cs) := fun cs => ⟨⟨_, rfl, n8⟩, ⟨_, rfl, by omega⟩, ⟨_, rfl, by omega⟩, ⟨_, rfl, by omega⟩, trivial⟩
  refine ⟨d0 _, ?_⟩
  have g0 : ((b.nm ++ " = ") ++ (toString (b.lo + k : Int) : Str)).length <= 2000 := by
    have := (rW (n := b.lo + k) (by omega) (by omega)).2
    rw [oZ, oZ]
    have : (" = " : Str).length = 3 := rfl
    omega
  have d : ∀ cs : List (Option V), DD tsW (some (.ref r) :: some (.str b.nm) :: some (.int b.lo) :: some (.int b.hi) :: some (.int (b.lo + k)) :: some (.str ((b.nm ++ " = ") ++ (toString (b.lo + k : Int) : Str))) :: cs) := fun cs => ⟨⟨_, rfl, n8⟩, ⟨_, rfl, by omega⟩, ⟨_, rfl, by omega⟩, ⟨_, rfl, by omega⟩, ⟨_, rfl, g0⟩, trivial⟩
  refine ⟨d _, fun n3 p3 H3 s3 f3 h3 => ?_⟩
  refine ⟨_, rfl, _, _, rfl, h3, d _, Nat.le_of_ble_eq_true rfl, fun n4 p4 H4 s4 f4 h4 => ?_⟩
  refine ⟨_, rfl, _, _, rfl, h4, d _, Nat.le_of_ble_eq_true rfl, fun n5 p5 H5 s5 f5 h5 => ?_⟩
  refine ⟨_, rfl, _, _, rfl, h5, d _, Nat.le_of_ble_eq_true rfl, fun n6 p6 H6 s6 f6 h6 => ?_⟩
  refine ⟨_, rfl, _, _, rfl, h6, d _, Nat.le_of_ble_eq_true rfl, fun n7 p7 H7 s7 f7 h7 => ?_⟩
  refine ⟨_, rfl, _, _, rfl, h7, d _, Nat.le_of_ble_eq_true rfl, fun n8' p8 H8 s8 f8 h8 => ?_⟩
  have s17 := s3.trans (s4.trans (s5.trans (s6.trans s7)))
  have n8r : p8 ≠ r := (P1.mono s17).nn f8
  have P8 := P1.mono (s17.trans s8)
  refine ⟨(by show 2 <= sizeLine; decide), fun pm hm => ?_⟩
  have P9 := P8.new hm (.lst [.str "never", .str "is"])
  have s9 := Same.new hm (.lst [.str "never", .str "is"])
  have hm9 : upd H8 pm (.lst [.str "never", .str "is"]) pm = some (.lst ((["never", "is"] : List Str).map V.str)) := jQ
  have nmr : pm ≠ r := P8.nn hm
  have h9 := s9 _ _ h8
  generalize upd H8 pm (.lst [.str "never", .str "is"]) = H9 at *
  refine ⟨_, rfl, r, 2, rfl, P9, yQ (by decide) (by decide), fun u H10 u0 u1 b10 P10 => ?_⟩
  obtain ⟨mo, hmo, em⟩ := sZ (zs := ["never", "is"]) u0 u1
  refine ⟨pm, _, u, _, rfl, rfl, SqL.of (b10 _ _ nmr hm9), em, ?_⟩
  have hmore : mo = "never" \/ mo = "is" := by simpa using hmo
  have m8 : mo.length <= 8 := by rcases hmore with rfl | rfl <;> decide
  have h10 := b10 _ _ n8r h9
  clear hm9 em hmo
  have d2 : ∀ c : Option V, DD tsW2 [some (.ref r), some (.str b.nm), some (.int b.lo), some (.int b.hi), some (.int (b.lo + k)), some (.str ((b.nm ++ " = ") ++ (toString (b.lo + k : Int) : Str))), c, some (.str mo)] := fun c => ⟨⟨_, rfl, n8⟩, ⟨_, rfl, by omega⟩, ⟨_, rfl, by omega⟩, ⟨_, rfl, by omega⟩, ⟨_, rfl, g0⟩, ⟨_, rfl, m8⟩, trivial⟩
  refine ⟨_, rfl, _, _, rfl, h10, d2 _, Nat.le_of_ble_eq_true rfl, fun n11 p11 H11 s11 f11 h11 => ?_⟩
  refine ⟨_, rfl, _, _, rfl, h11, d2 _, Nat.le_of_ble_eq_true rfl, fun n12 p12 H12 s12 f12 h12 => ?_⟩
  refine ⟨_, rfl, _, _, rfl, h12, d2 _, Nat.le_of_ble_eq_true rfl, fun n13 p13 H13 s13 f13 h13 => ?_⟩
  have h13 : H13 p13 = some (.lst ((wrdsL b.nm ((b.nm ++ " = ") ++ (toString (b.lo + k : Int) : Str)) mo (b.lo + k)).map V.str)) := h13
  have n13r : p13 ≠ r := (P10.mono (s11.trans s12)).nn f13
  have P13 := P10.mono (s11.trans (s12.trans s13))
  refine ⟨_, rfl, _, rfl, r, 42, rfl, P13, yQ (by decide) (by decide), fun j H14 j0 j1 b14 P14 => ?_⟩
  obtain ⟨z, hz, e⟩ := sZ (zs := wrdsL b.nm ((b.nm ++ " = ") ++ (toString (b.lo + k : Int) : Str)) mo (b.lo + k)) j0 j1
  exact ⟨p13, _, j, _, rfl, rfl, SqL.of (b14 _ _ n13r h13), e, q z H14 (wrds_bad X hb (by omega) (by omega) l0 l1 hmore (od_up no) z hz) (b1.trans ((But.of (s17.trans (s8.trans s9))).trans (b10.trans ((But.of (s11.trans (s12.trans s13))).trans b14)))) P14⟩
theorem nU {H : Hp} {l : Addr} {xs zs : List V} {Q : VK} (hl : H l = some (.lst xs)) (n : xs.length + zs.length <= 100000) (q : ∀ p2 H', Same H H' -> H p2 = none -> H' p2 = some (.lst (xs ++ zs)) -> Q (.ref p2) H') (p : Addr) (hp : H p = none) : rCat (.ref l) (.ref p) (upd H p (.lst zs)) Q :=
  ⟨l, p, xs, zs, rfl, rfl, (Same.new hp _) _ _ hl, jQ, zZ n, fun p2 h2 => q p2 _ ((Same.new hp _).trans (Same.new h2 _)) (by
    cases e : H p2 with
    | none => rfl
    | some o => rw [(Same.new hp (.lst zs)) _ _ e] at h2; exact nomatch h2) jQ⟩
theorem lp {x s : Str} (hs : s.length <= 1921) (hx : x.length <= 10) : (x ++ s).length <= 2000 := by rw [oZ]; omega
theorem ls {x s : Str} (hs : s.length <= 1921) (hx : x.length <= 10) : (s ++ x).length <= 2000 := by rw [oZ]; omega
theorem figs_len {s nines : Str} (hs : s.length <= 1921) (hn : nines.length <= 2000) : ∀ w ∈ figsL s nines, w.length <= 2000 :=
  mem2 (P := fun w => w.length <= 2000) (lp hs (by decide)) (mem2 (lp hs (by decide)) (mem2 (lp hs (by decide)) (mem2 (by decide) (mem2 (by decide) (mem2 (ls hs (by decide)) (mem2 (lp hs (by decide)) (mem2 (by decide) (mem2 (by decide) (mem2 (ls hs (by decide)) (mem2 hn (mem2 (lp hs (by decide)) (mem2 (lp hs (by decide)) (mem2 (ls hs (by decide)) (mem2 (by decide) (mem2 (ls hs (by decide)) (mem2 (by decide) (mem2 (by decide) mem0)))))))))))))))))
abbrev tsF : List (Option (Sum Nat Nat)) := [none, nS 8, nI 99, nI 99, nI 99, nS 1921]
abbrev tsF2 : List (Option (Sum Nat Nat)) := [none, nS 8, nI 99, nI 99, nI 99, nS 1921, none, nS 2000]
theorem scFigures : FnScope ["pot", "one", "low", "high", "n", "size", "some", "word", "signs", "at"] ["pot", "one", "low", "high"] (defScope sFigures) := ⟨rfl, rfl, rfl, by decide +kernel, rfl, by decide +kernel, by decide +kernel⟩
theorem jO (h : Has K mg "_law_figures" sFigures ["pot", "one", "low", "high"]) (B : Blt mg) (cN : Cal P w K mg base 1 "_law_next" ["pot", "many"] spNext) : Cal P w K mg base 2 "_law_figures" ["pot", "one", "low", "high"] spWords := by
  refine h.cal scFigures (fun vs H Q E h => ?_) (fun f cdv A outer s H vs Q E hr h => ?_)
  . obtain ⟨r, _, _, _, rfl, _⟩ := h
    rfl
  obtain ⟨r, bs, a, b, rfl, hP, X, hb, q⟩ := h
  have hr1 : Room 1 _ := hr
  refine ⟨_, (dQ (lQ (i := 4) scFigures.nd rfl (Or.inl rfl) (pQ eZ (pv 2) (nQ cN hr1 rfl (aQ (pv 0) (aQ (pQ eZ (pQ iX (pv 3) (pv 2)) iQ) fQ)))))
    (dQ (lQ (i := 5) scFigures.nd rfl (Or.inl rfl) (iJ aJ rfl B.str zU (aQ (cZ call_abs rfl B.abs bt_abs (aQ (pv 4) fQ)) fQ)))
    (dQ (lQ (i := 6) scFigures.nd rfl (Or.inl rfl) (qJ (D := DD tsF) (eQ (bQ cQ (kQ 5)) (eQ (bQ cQ (kQ 5)) (eQ (bQ cQ (kQ 5)) (eQ cQ (eQ cQ (eQ (bQ (kQ 5) cQ) (eQ (bQ cQ (kQ 5)) (eQ cQ (eQ cQ (eQ (bQ (kQ 5) cQ) aZ))))))))))))
    (dQ (lQ (i := 6) scFigures.nd rfl (Or.inl rfl) (pQ dX (pv 6) (kZ (aQ (pQ op_mulS oQ (pQ eZ iQ (nQ cN hr1 rfl (aQ (pv 0) (aQ iQ fQ))))) (SL.ev (D := DD tsF) (eQ (bQ cQ (kQ 5)) (eQ (bQ cQ (kQ 5)) (eQ (bQ (kQ 5) cQ) (eQ cQ (eQ (bQ (kQ 5) cQ) (eQ cQ (eQ cQ aZ))))))))))))
    (dQ (lQ (i := 7) scFigures.nd rfl (Or.inl rfl) (bZ vQ (pv 6) (nQ cN hr1 rfl (aQ (pv 0) (aQ iQ fQ))) (fun _ _ => rfl)))
    (dQ (lQ (i := 8) scFigures.nd rfl (Or.inl rfl) (qJ (D := DD tsF2) (eQ cQ (eQ cQ (eQ cQ (eQ cQ (eQ cQ (eQ cQ (eQ cQ aZ)))))))))
    (dQ (lQ (i := 9) scFigures.nd rfl (Or.inl rfl) (nQ cN hr1 rfl (aQ (pv 0) (aQ iQ fQ))))
    (dQ (wZ (wQ jX (pv 9) iQ (nomark _)) (mQ (tQ (pQ uQ (pQ uQ (pv 1) oQ) (bZ vQ (qJ (D := DD tsF2) (eQ (bQ (bQ (kQ 7) cQ) (xQ (rZ 4) rfl B.str)) (eQ (bQ (bQ (xQ (rZ 4) rfl B.str) cQ) (kQ 7)) aZ))) (nQ cN hr1 rfl (aQ (pv 0) (aQ iQ fQ))) (fun _ _ => rfl))))) fZ)
    (dQ (wZ (wQ jX (pv 9) iQ (nomark _)) (mQ (tQ (SS.ev (D := DD tsF2) ((bQ (bQ (bQ (kQ 1) cQ) (kQ 7)) cQ))))) fZ)
    (mQ (tQ (pQ uQ (pQ uQ (pv 1) (bZ vQ (pv 8) (pv 9) (fun _ _ => rfl))) (pv 7))))))))))))), ?_⟩
  have ok := X.ok b (List.mem_of_getElem? hb)
  have l0 := ok.lo
  have l1 := ok.hi
  have l2 := Int.le_trans ok.fl ok.fh
  have no := X.N.ok _ (Bx.mem hb)
  have n8 := no.l8
  wtm_at "ss"
  refine ⟨r, b.hi - b.lo + 1, rfl, hP, yQ (by omega) (by omega), fun k H1 k0 k1 b1 P1 => ?_⟩
  wtm_at "ss"
  obtain ⟨m, em⟩ : ∃ m : Int, m = (if b.lo + k < 0 then -(b.lo + k) else b.lo + k) := ⟨_, rfl⟩
  have m0 : 0 <= m /\ m <= 99 := by rw [em]; split <;> omega
  rw [<- em]
  have ml := rW (n := m) (by omega) (by omega)
  refine ⟨ml.1, ?_⟩
  have d : ∀ cs : List (Option V), DD tsF (some (.ref r) :: some (.str b.nm) :: some (.int b.lo) :: some (.int b.hi) :: some (.int (b.lo + k)) :: some (.str (toString m)) :: cs) := fun cs => ⟨⟨_, rfl, n8⟩, ⟨_, rfl, by omega⟩, ⟨_, rfl, by omega⟩, ⟨_, rfl, by omega⟩, ⟨_, rfl, ml.2⟩, trivial⟩
  refine ⟨d _, fun n3 p3 H3 s3 f3 h3 => ?_⟩
  have P3 := P1.mono s3
  refine ⟨_, rfl, _, rfl, r, 897, rfl, P3, yQ (by decide) (by decide), fun u H4 u0 u1 b4 P4 => ?_⟩
  have h4 := b4 _ _ (P1.nn f3) h3
  refine ⟨_, _, rfl, rfl, "9", 4 + u, rfl, rfl, by omega, by omega, zZ (by have : ("9" : Str).length = 1 := rfl; rw [this]; omega), fun nn hnn => ?_⟩
  have hnn2 : nn.cps.toList = List.replicate (4 + u).toNat 57 := by
    rw [hnn]
    show (List.replicate _ [57]).flatten = _
    generalize (4 + u).toNat = k
    induction k with
    | zero => rfl
    | succ k ih => rw [List.replicate_succ, List.flatten_cons, ih]; rfl
  have nlen : nn.length <= 2000 := by
    have := congrArg List.length hnn2
    rw [List.length_replicate] at this
    have e : nn.length = nn.cps.toList.length := (Array.length_toList).symm
    omega
  have nod : Rk (bs.map Box.nm) .od nn := od_nines hnn2 (by omega)
  refine ⟨d _, Nat.le_of_ble_eq_true rfl, fun p5 f5 => ?_⟩
  refine nU h4 (Nat.le_of_ble_eq_true rfl) (fun p6 H6 s6 f6 h6 => ?_) p5 f5
  have h6 : H6 p6 = some (.lst ((figsL (toString m) nn).map V.str)) := h6
  have P6 := P4.mono s6
  have n6r : p6 ≠ r := P4.nn f6
  refine ⟨_, rfl, _, rfl, r, 18, rfl, P6, yQ (by decide) (by decide), fun v H7 v0 v1 b7 P7 => ?_⟩
  obtain ⟨w, hw, ew⟩ := sZ (zs := figsL (toString m) nn) v0 v1
  refine ⟨p6, _, v, _, rfl, rfl, SqL.of (b7 _ _ n6r h6), ew, ?_⟩
  have wl := figs_len ml.2 nlen w hw
  have wod := figs_od (nms := bs.map Box.nm) m0.1 m0.2 nod w hw
  clear ew h6 hnn
  have d2 : ∀ (c : Option V) (cs : List (Option V)), DD tsF2 (some (.ref r) :: some (.str b.nm) :: some (.int b.lo) :: some (.int b.hi) :: some (.int (b.lo + k)) :: some (.str (toString m)) :: c :: some (.str w) :: cs) := fun c cs => ⟨⟨_, rfl, n8⟩, ⟨_, rfl, by omega⟩, ⟨_, rfl, by omega⟩, ⟨_, rfl, by omega⟩, ⟨_, rfl, ml.2⟩, ⟨_, rfl, wl⟩, trivial⟩
  refine ⟨d2 _ _, fun n8' p8 H8 s8 f8 h8 => ?_⟩
  have P8 := P7.mono s8
  have n8r : p8 ≠ r := P7.nn f8
  refine ⟨_, rfl, r, 7, rfl, P8, yQ (by decide) (by decide), fun j H9 j0 j1 b9 P9 => ?_⟩
  have h9 := b9 _ _ n8r h8
  have b19 : But r H H9 := b1.trans ((But.of s3).trans (b4.trans ((But.of s6).trans (b7.trans ((But.of s8).trans b9)))))
  have nl := (rW (n := b.lo + k) (by omega) (by omega)).2
  refine ⟨_, rfl, rfl, _, rfl, gX (fun e5 => ?_) (fun e5 => ?_)⟩
  . refine ⟨_, rfl, _, _, rfl, rfl, zZ (by have : (" in " : Str).length = 4 := rfl; omega), d2 _ _, fun n10 p10 H10 s10 f10 h10 => ?_⟩
    have P10 := P9.mono s10
    refine ⟨_, rfl, r, 2, rfl, P10, yQ (by decide) (by decide), fun g H11 g0 g1 b11 P11 => ?_⟩
    have h11 := b11 _ _ (P9.nn f10) h10
    obtain ⟨y, hy, ey⟩ := sZ (zs := [(w ++ " ") ++ (toString (b.lo + k : Int) : Str), ((toString (b.lo + k : Int) : Str) ++ " ") ++ w]) g0 g1
    have yl : y.length <= 5000 := by
      have : (" " : Str).length = 1 := rfl
      simp only [List.mem_cons, List.not_mem_nil, or_false] at hy
      rcases hy with rfl | rfl <;> rw [oZ, oZ] <;> omega
    refine ⟨p10, _, g, _, rfl, rfl, SqL.of h11, ey, _, _, rfl, rfl, zZ (by rw [oZ]; have : (" in " : Str).length = 4 := rfl; omega), ?_⟩
    refine q _ H11 ?_ (b19.trans ((But.of s10).trans b11)) P11
    simp only [List.mem_cons, List.not_mem_nil, or_false] at hy
    rcases hy with rfl | rfl
    . rcases wod with wod | rfl
      . exact figo5 X hb (by omega) (by omega) l0 l1 wod
      . exact figb5 X hb (by omega) (by omega) l0 l1 m0.1 m0.2
    . rcases wod with wod | rfl
      . exact figo6 X hb (by omega) (by omega) l0 l1 wod
      . exact figb6 X hb (by omega) (by omega) l0 l1 m0.1 m0.2
  refine ⟨_, rfl, rfl, _, rfl, gX (fun e6 => ?_) (fun e6 => ?_)⟩
  . refine ⟨d2 _ _, ?_⟩
    refine q _ H9 ?_ b19 P9
    rcases wod with wod | rfl
    . exact figo7 X hb (by omega) (by omega) l0 l1 wod
    . exact figb7 X hb (by omega) (by omega) l0 l1 m0.1 m0.2
  have e5 : j ≠ 5 := fun z => e5 (congrArg V.int z)
  have e6 : j ≠ 6 := fun z => e6 (congrArg V.int z)
  obtain ⟨sg, hsg, esg⟩ := sZ (zs := [" = ", " >= ", " <= ", " not ", " rest 2 = "]) (k := j) j0 (by show j < 5; omega)
  have esg : atI (([" = ", " >= ", " <= ", " not ", " rest 2 = ", " in ", " rest "] : List Str).map V.str) j = some (.str sg) := by
    have : j = 0 \/ j = 1 \/ j = 2 \/ j = 3 \/ j = 4 := by omega
    rcases this with rfl | rfl | rfl | rfl | rfl <;> exact esg
  have sl : sg.length <= 10 := by
    simp only [List.mem_cons, List.not_mem_nil, or_false] at hsg
    rcases hsg with rfl | rfl | rfl | rfl | rfl <;> decide
  refine ⟨_, rfl, _, rfl, _, rfl, p8, _, j, _, rfl, rfl, SqL.of h9, esg, _, _, rfl, rfl, zZ (by omega), _, rfl, _, _, rfl, rfl, zZ (by rw [oZ]; omega), ?_⟩
  refine q _ H9 ?_ b19 P9
  simp only [List.mem_cons, List.not_mem_nil, or_false] at hsg
  rcases hsg with rfl | rfl | rfl | rfl | rfl
  . rcases wod with wod | rfl
    . exact figo0 X hb (by omega) (by omega) l0 l1 wod
    . exact figb0 X hb (by omega) (by omega) l0 l1 m0.1 m0.2
  . rcases wod with wod | rfl
    . exact figo1 X hb (by omega) (by omega) l0 l1 wod
    . exact figb1 X hb (by omega) (by omega) l0 l1 m0.1 m0.2
  . rcases wod with wod | rfl
    . exact figo2 X hb (by omega) (by omega) l0 l1 wod
    . exact figb2 X hb (by omega) (by omega) l0 l1 m0.1 m0.2
  . rcases wod with wod | rfl
    . exact figo3 X hb (by omega) (by omega) l0 l1 wod
    . exact figb3 X hb (by omega) (by omega) l0 l1 m0.1 m0.2
  . rcases wod with wod | rfl
    . exact figo4 X hb (by omega) (by omega) l0 l1 wod
    . exact figb4 X hb (by omega) (by omega) l0 l1 m0.1 m0.2
end
def spTwo : Sp := fun vs H Q _ => ∃ (r : Addr) (bs : List Box) (i j : Nat) (a b : Box), vs = [.ref r, .str a.nm, .str b.nm] /\ PotAt H r /\ Bx bs /\ bs[i]? = some a /\ bs[j]? = some b /\ i < j /\ ∀ (z : Str) (H' : Hp), Bad bs z -> But r H H' -> PotAt H' r -> Q (.str z) H'
def spThr3 : Sp := fun vs H Q _ => ∃ (r : Addr) (bs : List Box) (i j k : Nat) (a b c : Box), vs = [.ref r, .str a.nm, .str b.nm, .str c.nm] /\ PotAt H r /\ Bx bs /\ bs[i]? = some a /\ bs[j]? = some b /\ bs[k]? = some c /\ i < j /\ k ≠ i /\ k ≠ j /\ ∀ (z : Str) (H' : Hp), Bad bs z -> But r H H' -> PotAt H' r -> Q (.str z) H'
section
variable {P : Program} {w : World} {K : PySem.W.Frag} {mg : Str -> Option Value} {base : Heap}
abbrev tsT : List (Option (Sum Nat Nat)) := [none, nS 8, nS 8, nS 8, nS 8]
theorem scTwo : FnScope ["pot", "a", "b", "far", "great", "some"] ["pot", "a", "b"] (defScope sTwo) := ⟨rfl, rfl, rfl, by decide +kernel, rfl, by decide +kernel, by decide +kernel⟩
theorem ok_two (h : Has K mg "_law_two" sTwo ["pot", "a", "b"]) (B : Blt mg) (cN : Cal P w K mg base 1 "_law_next" ["pot", "many"] spNext) : Cal P w K mg base 2 "_law_two" ["pot", "a", "b"] spTwo := by
  refine h.cal scTwo (fun vs H Q E h => ?_) (fun f cdv A outer s H vs Q E hr h => ?_)
  . obtain ⟨r, _, _, _, _, _, rfl, _⟩ := h
    rfl
  obtain ⟨r, bs, i, j, a, b, rfl, hP, X, ha, hb, hij, q⟩ := h
  have hr1 : Room 1 _ := hr
  refine ⟨_, (dQ (lQ (i := 3) scTwo.nd rfl (Or.inl rfl) (bZ vQ (kZ (aQ oQ (aQ oQ (aQ oQ fQ)))) (nQ cN hr1 rfl (aQ (pv 0) (aQ iQ fQ))) (fun _ _ => rfl)))
    (dQ (lQ (i := 4) scTwo.nd rfl (Or.inl rfl) (bZ vQ (kZ (aQ oQ (aQ oQ (aQ oQ fQ)))) (nQ cN hr1 rfl (aQ (pv 0) (aQ iQ fQ))) (fun _ _ => rfl)))
    (dQ (lQ (i := 5) scTwo.nd rfl (Or.inl rfl) (qJ (D := DD tsT) (eQ (bQ (bQ (kQ 2) cQ) (kQ 1)) (eQ (bQ (bQ (kQ 1) cQ) (kQ 1)) (eQ (bQ (bQ (kQ 1) cQ) (kQ 1)) (eQ (bQ (bQ (kQ 1) cQ) (kQ 1)) (eQ (bQ (bQ (kQ 1) cQ) (kQ 2)) (eQ (bQ (bQ (kQ 1) cQ) (kQ 2)) aZ))))))))
    (dQ (lQ (i := 5) scTwo.nd rfl (Or.inl rfl) (jZ (D := DD tsT) (pv 5) (eQ (bQ (bQ (kQ 1) cQ) (kQ 2)) (eQ (bQ (bQ (bQ (bQ (kQ 1) cQ) (kQ 2)) cQ) (kQ 3)) (eQ (bQ (bQ (bQ (kQ 2) cQ) (kQ 1)) cQ) (eQ (bQ (bQ (bQ (kQ 1) cQ) (kQ 1)) cQ) aZ))))))
    (dQ (lQ (i := 5) scTwo.nd rfl (Or.inl rfl) (jZ (D := DD tsT) (pv 5) (eQ (bQ (bQ (bQ (kQ 1) cQ) (kQ 1)) cQ) (eQ (bQ (bQ (bQ (bQ (kQ 1) cQ) (kQ 2)) cQ) (kQ 4)) (eQ (bQ (bQ (bQ (kQ 2) cQ) (kQ 1)) cQ) aZ)))))
    (dQ (lQ (i := 5) scTwo.nd rfl (Or.inl rfl) (jZ (D := DD tsT) (pv 5) (eQ (bQ (bQ (bQ (kQ 1) cQ) (kQ 2)) cQ) (eQ (bQ (bQ (bQ (bQ (kQ 1) cQ) (kQ 1)) cQ) (kQ 2)) (eQ (bQ (bQ (bQ (bQ (kQ 1) cQ) (kQ 2)) cQ) (kQ 2)) aZ)))))
    (dQ (lQ (i := 5) scTwo.nd rfl (Or.inl rfl) (jZ (D := DD tsT) (pv 5) (eQ (bQ (bQ (bQ (bQ (kQ 1) cQ) (kQ 2)) cQ) (kQ 1)) (eQ (bQ (bQ (bQ (bQ (kQ 1) cQ) (kQ 2)) cQ) (kQ 2)) (eQ (bQ (bQ (bQ (kQ 1) cQ) (kQ 2)) cQ) aZ)))))
    (dQ (lQ (i := 5) scTwo.nd rfl (Or.inl rfl) (jZ (D := DD tsT) (pv 5) (eQ (bQ (bQ (bQ (kQ 1) cQ) (kQ 2)) cQ) (eQ (bQ (bQ (kQ 1) cQ) (kQ 2)) (eQ (bQ (bQ (kQ 1) cQ) (kQ 2)) aZ)))))
    (dQ (lQ (i := 5) scTwo.nd rfl (Or.inl rfl) (jZ (D := DD tsT) (pv 5) (eQ (bQ (bQ (bQ (kQ 1) cQ) (kQ 2)) cQ) (eQ (bQ (bQ (kQ 1) cQ) (kQ 2)) (eQ (bQ (bQ (bQ (kQ 1) cQ) (kQ 2)) cQ) (eQ (bQ (bQ (bQ (kQ 1) cQ) (kQ 2)) cQ) (eQ (bQ (bQ (kQ 1) cQ) (kQ 2)) aZ)))))))
    (dQ (lQ (i := 5) scTwo.nd rfl (Or.inl rfl) (jZ (D := DD tsT) (pv 5) (eQ (bQ (bQ cQ (kQ 2)) cQ) (eQ (bQ (kQ 1) cQ) (eQ (bQ (bQ (bQ cQ (kQ 1)) cQ) (kQ 2)) (eQ (bQ (bQ (bQ cQ (kQ 1)) cQ) (kQ 2)) aZ))))))
    (dQ (lQ (i := 5) scTwo.nd rfl (Or.inl rfl) (jZ (D := DD tsT) (pv 5) (eQ (bQ (bQ (bQ (kQ 1) cQ) (kQ 2)) cQ) (eQ (bQ (bQ (bQ (kQ 1) cQ) (kQ 2)) cQ) (eQ (bQ (bQ (kQ 1) cQ) (kQ 2)) (eQ (bQ (bQ (kQ 1) cQ) (kQ 2)) aZ))))))
    (dQ (lQ (i := 5) scTwo.nd rfl (Or.inl rfl) (jZ (D := DD tsT) (pv 5) (eQ (bQ (bQ (bQ (bQ (bQ (bQ (kQ 1) cQ) (kQ 2)) cQ) (kQ 1)) cQ) (kQ 2)) (eQ (bQ (bQ (bQ (bQ (bQ (bQ (bQ (kQ 1) cQ) (kQ 2)) cQ) (kQ 1)) cQ) (kQ 2)) cQ) aZ))))
    (mQ (tQ (bZ vQ (pv 5) (nQ cN hr1 rfl (aQ (pv 0) (aQ iQ fQ))) (fun _ _ => rfl)))))))))))))))), ?_⟩
  have a8 := (X.N.ok _ (Bx.mem ha)).l8
  have b8 := (X.N.ok _ (Bx.mem hb)).l8
  refine ⟨(by show 3 <= sizeLine; decide), fun pm hm => ?_⟩
  have P1 := hP.new hm (.lst [.str "21", .str "-21", .str "0"])
  have s1 := Same.new hm (.lst [.str "21", .str "-21", .str "0"])
  have h1 : upd H pm (.lst [.str "21", .str "-21", .str "0"]) pm = some (.lst ((["21", "-21", "0"] : List Str).map V.str)) := jQ
  have nmr : pm ≠ r := hP.nn hm
  generalize upd H pm (.lst [.str "21", .str "-21", .str "0"]) = H1 at *
  refine ⟨_, rfl, r, 3, rfl, P1, yQ (by decide) (by decide), fun u H2 u0 u1 b2 P2 => ?_⟩
  obtain ⟨far, hfa, em⟩ := sZ (zs := ["21", "-21", "0"]) u0 u1
  refine ⟨pm, _, u, _, rfl, rfl, SqL.of (b2 _ _ nmr h1), em, ?_⟩
  have hfar : far = "21" \/ far = "-21" \/ far = "0" := by simpa using hfa
  have f8 : far.length <= 8 := by rcases hfar with rfl | rfl | rfl <;> decide
  clear em hfa h1
  refine ⟨(by show 3 <= sizeLine; decide), fun pg hg => ?_⟩
  have P3 := P2.new hg (.lst [.str "41", .str "-41", .str "99"])
  have s3 := Same.new hg (.lst [.str "41", .str "-41", .str "99"])
  have h3 : upd H2 pg (.lst [.str "41", .str "-41", .str "99"]) pg = some (.lst ((["41", "-41", "99"] : List Str).map V.str)) := jQ
  have ngr : pg ≠ r := P2.nn hg
  generalize upd H2 pg (.lst [.str "41", .str "-41", .str "99"]) = H3 at *
  refine ⟨_, rfl, r, 3, rfl, P3, yQ (by decide) (by decide), fun v H4 v0 v1 b4 P4 => ?_⟩
  obtain ⟨great, hgr, em⟩ := sZ (zs := ["41", "-41", "99"]) v0 v1
  refine ⟨pg, _, v, _, rfl, rfl, SqL.of (b4 _ _ ngr h3), em, ?_⟩
  have hgreat : great = "41" \/ great = "-41" \/ great = "99" := by simpa using hgr
  have g8 : great.length <= 8 := by rcases hgreat with rfl | rfl | rfl <;> decide
  clear em hgr h3
  have d : ∀ c : Option V, DD tsT [some (.ref r), some (.str a.nm), some (.str b.nm), some (.str far), some (.str great), c] := fun c => ⟨⟨_, rfl, a8⟩, ⟨_, rfl, b8⟩, ⟨_, rfl, f8⟩, ⟨_, rfl, g8⟩, trivial⟩
  refine ⟨d _, fun m1 q1 G1 t1 f1 k1 => ?_⟩
  refine ⟨_, rfl, _, _, rfl, k1, d _, Nat.le_of_ble_eq_true rfl, fun m2 q2 G2 t2 f2 k2 => ?_⟩
  refine ⟨_, rfl, _, _, rfl, k2, d _, Nat.le_of_ble_eq_true rfl, fun m3 q3 G3 t3 f3 k3 => ?_⟩
  refine ⟨_, rfl, _, _, rfl, k3, d _, Nat.le_of_ble_eq_true rfl, fun m4 q4 G4 t4 f4 k4 => ?_⟩
  refine ⟨_, rfl, _, _, rfl, k4, d _, Nat.le_of_ble_eq_true rfl, fun m5 q5 G5 t5 f5 k5 => ?_⟩
  refine ⟨_, rfl, _, _, rfl, k5, d _, Nat.le_of_ble_eq_true rfl, fun m6 q6 G6 t6 f6 k6 => ?_⟩
  refine ⟨_, rfl, _, _, rfl, k6, d _, Nat.le_of_ble_eq_true rfl, fun m7 q7 G7 t7 f7 k7 => ?_⟩
  refine ⟨_, rfl, _, _, rfl, k7, d _, Nat.le_of_ble_eq_true rfl, fun m8 q8 G8 t8 f8' k8 => ?_⟩
  refine ⟨_, rfl, _, _, rfl, k8, d _, Nat.le_of_ble_eq_true rfl, fun m9 q9 G9 t9 f9 k9 => ?_⟩
  refine ⟨_, rfl, _, _, rfl, k9, d _, Nat.le_of_ble_eq_true rfl, fun m10 q10 G10 t10 f10 k10 => ?_⟩
  have k10 : G10 q10 = some (.lst ((twosL a.nm b.nm far great).map V.str)) := k10
  have s9 := t1.trans (t2.trans (t3.trans (t4.trans (t5.trans (t6.trans (t7.trans (t8.trans t9)))))))
  have nqr : q10 ≠ r := (P4.mono s9).nn f10
  have P10 := P4.mono (s9.trans t10)
  refine ⟨_, rfl, _, rfl, r, 37, rfl, P10, yQ (by decide) (by decide), fun x H14 x0 x1 b14 P14 => ?_⟩
  obtain ⟨z, hz, e⟩ := sZ (zs := twosL a.nm b.nm far great) x0 x1
  exact ⟨q10, _, x, _, rfl, rfl, SqL.of (b14 _ _ nqr k10), e, q z H14 (twos_bad X ha hb hij hfar hgreat z hz) ((But.of s1).trans (b2.trans ((But.of s3).trans (b4.trans ((But.of (s9.trans t10)).trans b14))))) P14⟩
abbrev tsH : List (Option (Sum Nat Nat)) := [none, nS 8, nS 8, nS 8]
theorem scThr3 : FnScope ["pot", "a", "b", "c", "some"] ["pot", "a", "b", "c"] (defScope sThree) := ⟨rfl, rfl, rfl, by decide +kernel, rfl, by decide +kernel, by decide +kernel⟩
theorem ok_three3 (h : Has K mg "_law_three" sThree ["pot", "a", "b", "c"]) (B : Blt mg) (cN : Cal P w K mg base 1 "_law_next" ["pot", "many"] spNext) : Cal P w K mg base 2 "_law_three" ["pot", "a", "b", "c"] spThr3 := by
  refine h.cal scThr3 (fun vs H Q E h => ?_) (fun f cdv A outer s H vs Q E hr h => ?_)
  . obtain ⟨r, _, _, _, _, _, _, _, rfl, _⟩ := h
    rfl
  obtain ⟨r, bs, i, j, k, a, b, c, rfl, hP, X, ha, hb, hc, hij, hki, hkj, q⟩ := h
  have hr1 : Room 1 _ := hr
  refine ⟨_, (dQ (lQ (i := 4) scThr3.nd rfl (Or.inl rfl) (qJ (D := DD tsH) (eQ (bQ (bQ (bQ (bQ (kQ 2) cQ) (kQ 1)) cQ) (kQ 3)) (eQ (bQ (bQ (bQ (bQ (kQ 2) cQ) (kQ 1)) cQ) (kQ 3)) (eQ (bQ (bQ (bQ (bQ (kQ 1) cQ) (kQ 2)) cQ) (kQ 3)) aZ)))))
    (dQ (lQ (i := 4) scThr3.nd rfl (Or.inl rfl) (jZ (D := DD tsH) (pv 4) (eQ (bQ (bQ (bQ (bQ (kQ 1) cQ) (kQ 2)) cQ) (kQ 3)) (eQ (bQ (bQ (bQ (bQ (kQ 1) cQ) (kQ 2)) cQ) (kQ 3)) (eQ (bQ (bQ (bQ (bQ (kQ 1) cQ) (kQ 2)) cQ) (kQ 3)) aZ)))))
    (dQ (lQ (i := 4) scThr3.nd rfl (Or.inl rfl) (jZ (D := DD tsH) (pv 4) (eQ (bQ (bQ (bQ (bQ (kQ 1) cQ) (kQ 2)) cQ) (kQ 3)) (eQ (bQ (bQ (bQ (bQ (kQ 1) cQ) (kQ 2)) cQ) (kQ 3)) (eQ (bQ (bQ (bQ (bQ (kQ 3) cQ) (kQ 1)) cQ) (kQ 2)) aZ)))))
    (dQ (lQ (i := 4) scThr3.nd rfl (Or.inl rfl) (jZ (D := DD tsH) (pv 4) (eQ (bQ (bQ (bQ (bQ (kQ 3) cQ) (kQ 1)) cQ) (kQ 2)) (eQ (bQ (bQ (bQ (bQ (kQ 1) cQ) (kQ 2)) cQ) (kQ 3)) (eQ (bQ (bQ (bQ (bQ (kQ 1) cQ) (kQ 3)) cQ) (kQ 2)) aZ)))))
    (dQ (lQ (i := 4) scThr3.nd rfl (Or.inl rfl) (jZ (D := DD tsH) (pv 4) (eQ (bQ (bQ (bQ (bQ (bQ (bQ (bQ (bQ (kQ 1) cQ) (kQ 2)) cQ) (kQ 3)) cQ) (kQ 1)) cQ) (kQ 2)) (eQ (bQ (bQ (bQ (bQ (bQ (kQ 1) cQ) (kQ 2)) cQ) (kQ 3)) cQ) aZ))))
    (mQ (tQ (bZ vQ (pv 4) (nQ cN hr1 rfl (aQ (pv 0) (aQ iQ fQ))) (fun _ _ => rfl))))))))), ?_⟩
  have a8 := (X.N.ok _ (Bx.mem ha)).l8
  have b8 := (X.N.ok _ (Bx.mem hb)).l8
  have c8 := (X.N.ok _ (Bx.mem hc)).l8
  have d : ∀ e : Option V, DD tsH [some (.ref r), some (.str a.nm), some (.str b.nm), some (.str c.nm), e] := fun e => ⟨⟨_, rfl, a8⟩, ⟨_, rfl, b8⟩, ⟨_, rfl, c8⟩, trivial⟩
  refine ⟨d _, fun m1 q1 G1 t1 f1 k1 => ?_⟩
  refine ⟨_, rfl, _, _, rfl, k1, d _, Nat.le_of_ble_eq_true rfl, fun m2 q2 G2 t2 f2 k2 => ?_⟩
  refine ⟨_, rfl, _, _, rfl, k2, d _, Nat.le_of_ble_eq_true rfl, fun m3 q3 G3 t3 f3 k3 => ?_⟩
  refine ⟨_, rfl, _, _, rfl, k3, d _, Nat.le_of_ble_eq_true rfl, fun m4 q4 G4 t4 f4 k4 => ?_⟩
  refine ⟨_, rfl, _, _, rfl, k4, d _, Nat.le_of_ble_eq_true rfl, fun m5 q5 G5 t5 f5 k5 => ?_⟩
  have k5 : G5 q5 = some (.lst ((thrsL a.nm b.nm c.nm).map V.str)) := k5
  have s4 := t1.trans (t2.trans (t3.trans t4))
  have nqr : q5 ≠ r := (hP.mono s4).nn f5
  have P5 := hP.mono (s4.trans t5)
  refine ⟨_, rfl, _, rfl, r, 14, rfl, P5, yQ (by decide) (by decide), fun x H14 x0 x1 b14 P14 => ?_⟩
  obtain ⟨z, hz, e⟩ := sZ (zs := thrsL a.nm b.nm c.nm) x0 x1
  exact ⟨q5, _, x, _, rfl, rfl, SqL.of (b14 _ _ nqr k5), e, q z H14 (thrs_bad X ha hb hij hc hki hkj z hz) ((But.of (s4.trans t5)).trans b14) P14⟩
end
def spStrange : Sp := fun vs H Q _ => ∃ (r pn : Addr) (bs : List Box), vs = [.ref r, .ref pn] /\ PotAt H r /\ pn ≠ r /\ H pn = some (.lst ((bs.map Box.nm).map V.str)) /\ Bx bs /\ 1 <= bs.length /\ ∀ (z : Str) (H' : Hp), Bad bs z -> But r H H' -> PotAt H' r -> Q (.str z) H'
section
variable {P : Program} {w : World} {K : PySem.W.Frag} {mg : Str -> Option Value} {base : Heap}
abbrev tsS : List (Option (Sum Nat Nat)) := [none, none, none, nS 8, nS 8]
theorem scStrange : FnScope ["pot", "names", "some", "odd", "a", "menu"] ["pot", "names"] (defScope sStrange) := ⟨rfl, rfl, rfl, by decide +kernel, rfl, by decide +kernel, by decide +kernel⟩
theorem odd_nd : oddL.Nodup := by decide +kernel
theorem odd_8 : ∀ x ∈ oddL, x.length <= 8 := by decide +kernel
theorem kO (h : Has K mg "_law_strange" sStrange ["pot", "names"]) (B : Blt mg) (cN : Cal P w K mg base 1 "_law_next" ["pot", "many"] spNext) : Cal P w K mg base 2 "_law_strange" ["pot", "names"] spStrange := by
  refine h.cal scStrange (fun vs H Q E h => ?_) (fun f cdv A outer s H vs Q E hr h => ?_)
  . obtain ⟨r, _, _, rfl, _⟩ := h
    rfl
  obtain ⟨r, pn, bs, rfl, hP, npr, hn, X, l1, q⟩ := h
  have hr1 : Room 1 _ := hr
  refine ⟨_, (dQ (ps_lc (i := 2) (defScope sStrange) ["pot", "names", "some", "odd", "a", "menu"] (N := ["one", "names"]) (ix := [none, some 1]) rfl scStrange.nd rfl (Or.inl rfl) ⟨rfl, by decide +kernel, by decide +kernel, by decide +kernel, rfl, by decide +kernel⟩ (uX (kZ (aQ oQ (aQ oQ (aQ oQ (aQ oQ (aQ oQ fQ))))))) (fun _ _ _ _ => rQ (i := 0) (show (["one", "names"] : List Str).Nodup by decide +kernel) rfl (Or.inl rfl)) (fun _ _ _ _ => (oW (wQ (opNi K) (pv 0) (pv 1) (by with_unfolding_all rfl)))) (fun _ _ _ _ => (pv 0)))
    (dQ (lQ (i := 3) scStrange.nd rfl (Or.inl rfl) (bZ vQ (pv 2) (nQ cN hr1 rfl (aQ (pv 0) (aQ (cZ zQ rfl B.len eX (aQ (pv 2) fQ)) fQ))) (fun _ _ => rfl)))
    (dQ (lQ (i := 4) scStrange.nd rfl (Or.inl rfl) (bZ vQ (pv 1) iQ (fun _ _ => rfl)))
    (dQ (lQ (i := 5) scStrange.nd rfl (Or.inl rfl) (qJ (D := DD tsS) (eQ (bQ (kQ 3) cQ) (eQ (bQ (bQ (kQ 3) cQ) (kQ 4)) (eQ (bQ (bQ (kQ 4) cQ) (kQ 3)) (eQ (bQ (bQ (kQ 4) cQ) (kQ 3)) (eQ (bQ (kQ 3) cQ) (eQ (bQ (kQ 3) cQ) aZ))))))))
    (dQ (lQ (i := 5) scStrange.nd rfl (Or.inl rfl) (jZ (D := DD tsS) (pv 5) (eQ (bQ (bQ (bQ (kQ 4) cQ) (kQ 3)) cQ) (eQ (bQ (bQ (bQ (kQ 4) cQ) (kQ 3)) cQ) (eQ (bQ (bQ (bQ (kQ 3) cQ) (kQ 4)) cQ) (eQ (bQ (kQ 3) cQ) aZ))))))
    (dQ (lQ (i := 5) scStrange.nd rfl (Or.inl rfl) (pQ dX (pv 5) (kZ (aQ (pQ uQ (pQ uQ (pQ uQ (pQ uQ (bZ vQ (pv 1) (gY wW iQ) (fun _ _ => rfl)) oQ) (pv 3)) oQ) (pv 4)) (aQ (pQ uQ (pQ uQ (pQ uQ (pQ uQ (pv 4) oQ) (bZ vQ (pv 1) (gY wW iQ) (fun _ _ => rfl))) oQ) (pv 3)) fQ)))))
    (dQ (lQ (i := 5) scStrange.nd rfl (Or.inl rfl) (jZ (D := DD tsS) (pv 5) (eQ (bQ (bQ (bQ (bQ (kQ 3) cQ) (kQ 4)) cQ) (kQ 4)) aZ)))
    (mQ (tQ (bZ vQ (pv 5) (nQ cN hr1 rfl (aQ (pv 0) (aQ iQ fQ))) (fun _ _ => rfl))))))))))), ?_⟩
  refine ⟨(by show 5 <= sizeLine; decide), fun po ho => ?_⟩
  have s1 := Same.new ho (.lst [.str "q", .str "zz", .str "a", .str "rest", .str "boxes"])
  have h1 : upd H po (.lst [.str "q", .str "zz", .str "a", .str "rest", .str "boxes"]) po = some (.lst (oddL.map V.str)) := jQ
  have hn1 := s1 _ _ hn
  have P1 := hP.mono s1
  generalize upd H po (.lst [.str "q", .str "zz", .str "a", .str "rest", .str "boxes"]) = H1 at *
  obtain ⟨ts, ets⟩ : ∃ ts, ts = bs.map Box.nm := ⟨_, rfl⟩
  rw [<- ets] at hn1
  have tl : ts.length = bs.length := by rw [ets, List.length_map]
  refine ⟨po, rfl, ⟨_, SqL.of h1⟩, fun D hD => ?_⟩
  refine pW (K := K) (a := po) (xs := oddL.map V.str) (fun i ys σ H3 => ∃ c0 : Option V, σ = [c0, some (.ref pn)] /\ ys = ((oddL.take i).filter fun x => decide (x ∉ ts)).map V.str /\ H3 D = some (.lst ys) /\ Same H1 H3)
    ⟨none, rfl, rfl, jQ, Same.new hD _⟩ (fun i ys σ H3 _ hh => by obtain ⟨_, _, _, _, e⟩ := hh; exact SqL.of (e _ _ h1)) ?_ ?_
  . rintro i x ys σ H3 hi ⟨c0, rfl, rfl, h3, s3⟩
    rw [List.getElem?_map] at hi
    obtain ⟨wv, hw, rfl⟩ := Option.map_eq_some_iff.mp hi
    have hli : ((oddL.take i).filter fun x => decide (x ∉ ts)).length <= 5 := Nat.le_trans (List.length_filter_le ..) (by rw [List.length_take]; show min i 5 <= 5; omega)
    refine ⟨_, rfl, _, rfl, pn, _, rfl, .inl (SqL.of (s3 _ _ hn1)), rfl, kJ ts, _, rfl, ?_⟩
    show if (!inV (V.str wv) (ts.map V.str)) = true then _ else _
    rw [zJ]
    by_cases e1 : wv ∈ ts
    . refine iteNS e1 ⟨_, rfl, ?_, h3, s3⟩
      rw [List.take_add_one, hw, List.filter_append]
      show _ = List.map V.str (_ ++ List.filter _ [wv])
      rw [List.filter_cons_of_neg (by simpa using e1), List.filter_nil, List.append_nil]
    refine qY e1 ⟨_, rfl, h3, small1000 (by rw [List.length_map]; omega), _, rfl, ?_, jQ, fun a o e => by rw [sQ (qQ e hD)]; exact s3 _ _ e⟩
    rw [List.take_add_one, hw, List.filter_append, List.map_append]
    show _ = _ ++ List.map V.str (List.filter _ [wv])
    rw [List.filter_cons_of_pos (p := fun x => decide (x ∉ ts)) (by simpa using e1), List.filter_nil]
    rfl
  rintro ys σ3 H3 ⟨c0, rfl, rfl, h3, s3⟩
  rw [List.length_map, List.take_length] at h3
  obtain ⟨y, hy, hny⟩ := pY (m := ts) odd_nd (by rw [tl]; have := X.l4; show bs.length < 5; omega)
  obtain ⟨os, eos⟩ : ∃ os, os = oddL.filter fun x => decide (x ∉ ts) := ⟨_, rfl⟩
  rw [<- eos] at h3
  have osm : ∀ x ∈ os, x ∈ oddL /\ x ∉ ts := fun x hx => by rw [eos, List.mem_filter] at hx; exact ⟨hx.1, of_decide_eq_true hx.2⟩
  have os0 : 0 < os.length := List.length_pos_of_mem (show y ∈ os by rw [eos, List.mem_filter]; exact ⟨hy, decide_eq_true hny⟩)
  have os5 : os.length <= 5 := by rw [eos]; exact List.length_filter_le ..
  have P3 := P1.mono s3
  have nDr : D ≠ r := P1.nn hD
  refine ⟨_, rfl, _, rfl, _, rfl, D, _, rfl, .inl (SqL.of h3), r, _, rfl, P3, yQ (by rw [List.length_map]; omega) (by rw [List.length_map]; omega), fun u H4 u0 u1 b4 P4 => ?_⟩
  rw [List.length_map] at u1
  obtain ⟨odd, hod, eo⟩ := sZ (zs := os) u0 u1
  refine ⟨D, _, u, _, rfl, rfl, SqL.of (b4 _ _ nDr h3), eo, ?_⟩
  have hodd : Rk (bs.map Box.nm) .st odd := by rw [<- ets]; exact odd_st odd (osm odd hod).1 (osm odd hod).2
  have o8 := odd_8 odd (osm odd hod).1
  have hn4 := b4 _ _ npr (s3 _ _ hn1)
  obtain ⟨a, ha⟩ : ∃ a, bs[0]? = some a := ⟨bs[0], List.getElem?_eq_getElem (by omega)⟩
  have ta : atI (ts.map V.str) ((0 : Nat) : Int) = some (.str a.nm) := qZ (by rw [ets, List.map_map, List.getElem?_map, ha]; rfl)
  have a8 := (X.N.ok _ (Bx.mem ha)).l8
  obtain ⟨x, hx, tb⟩ := last_at (ts := ts) (by omega)
  rw [ets] at hx
  obtain ⟨b, hbm, rfl⟩ := List.mem_map.mp hx
  obtain ⟨j, hj, ej⟩ := List.getElem_of_mem hbm
  have hb : bs[j]? = some b := by rw [List.getElem?_eq_getElem hj, ej]
  have b8 := (X.N.ok _ (Bx.mem hb)).l8
  refine ⟨_, rfl, pn, _, _, _, rfl, rfl, SqL.of hn4, ta, ?_⟩
  have d : ∀ (c c' : Option V), DD tsS [some (.ref r), some (.ref pn), c, some (.str odd), some (.str a.nm), c'] := fun c c' => ⟨⟨_, rfl, o8⟩, ⟨_, rfl, a8⟩, trivial⟩
  refine ⟨d _ _, fun m5 p5 H5 s5 f5 h5 => ?_⟩
  refine ⟨_, rfl, _, _, rfl, h5, d _ _, Nat.le_of_ble_eq_true rfl, fun m6 p6 H6 s6 f6 h6 => ?_⟩
  have hn6 := s6 _ _ (s5 _ _ hn4)
  have lt : ∀ {x y : Str} {n m : Nat}, x.length <= n -> y.length <= m -> n + m <= 1000 -> x.length + y.length <= sizeLine := fun h1 h2 h3 => zZ (by omega)
  have la : ∀ {x y : Str} {n m : Nat}, x.length <= n -> y.length <= m -> (x ++ y).length <= n + m := fun h1 h2 => by rw [oZ]; omega
  have e3 : (" + " : Str).length <= 3 := by decide
  have e4 : (" = " : Str).length <= 3 := by decide
  have e5 : (" * " : Str).length <= 3 := by decide
  refine ⟨_, rfl, _, rfl, _, rfl, pn, _, -1, _, rfl, rfl, SqL.of hn6, tb, _, _, rfl, rfl, lt b8 e3 (by decide), _, rfl, _, _, rfl, rfl, lt (la b8 e3) o8 (by decide), _, _, rfl, rfl, lt (la (la b8 e3) o8) e4 (by decide), _, rfl, _, _, rfl, rfl, lt (la (la (la b8 e3) o8) e4) a8 (by decide), ?_⟩
  refine ⟨_, rfl, _, _, rfl, rfl, lt a8 e5 (by decide), _, rfl, _, rfl, pn, _, -1, _, rfl, rfl, SqL.of hn6, tb, _, _, rfl, rfl, lt (la a8 e5) b8 (by decide), _, _, rfl, rfl, lt (la (la a8 e5) b8) e4 (by decide), _, rfl, _, _, rfl, rfl, lt (la (la (la a8 e5) b8) e4) o8 (by decide), ?_⟩
  refine ⟨(by show 2 <= sizeLine; decide), fun p7 f7 => ?_⟩
  refine nU h6 (Nat.le_of_ble_eq_true rfl) (fun p8 H8 s8 f8 h8 => ?_) p7 f7
  refine ⟨_, rfl, _, _, rfl, h8, d _ _, Nat.le_of_ble_eq_true rfl, fun m9 p9 H9 s9 f9 h9 => ?_⟩
  have h9 : H9 p9 = some (.lst ((strsL odd a.nm b.nm).map V.str)) := h9
  have s58 := s5.trans (s6.trans s8)
  have n9r : p9 ≠ r := (P4.mono s58).nn f9
  have P9 := P4.mono (s58.trans s9)
  refine ⟨_, rfl, _, rfl, r, 13, rfl, P9, yQ (by decide) (by decide), fun v H10 v0 v1 b10 P10 => ?_⟩
  obtain ⟨z, hz, e⟩ := sZ (zs := strsL odd a.nm b.nm) v0 v1
  exact ⟨p9, _, v, _, rfl, rfl, SqL.of (b10 _ _ n9r h9), e, q z H10 (strs_bad X ha hb hodd z hz) ((But.of (s1.trans s3)).trans (b4.trans ((But.of (s58.trans s9)).trans b10))) P10⟩
end
theorem nxs {t R : TS} {D : Ends} {σ : St} {H : Hp} {rt : VK} {bk ct : St -> Hp -> Prop} (h : tSeq t R D σ H) : Ends.nx ⟨tSeq t R D, rt, bk, ct⟩ σ H := h
def spBad : Sp := fun vs H Q _ => ∃ (r pb : Addr) (us : List V) (bs : List Box), vs = [.ref r, .ref pb] /\ PotAt H r /\ pb ≠ r /\ BoxesAt H pb us bs /\ Bx bs /\ 1 <= bs.length /\ ∀ (z : Str) (H' : Hp), Bad bs z -> But r H H' -> PotAt H' r -> Q (.str z) H'
section
variable {P : Program} {w : World} {K : PySem.W.Frag} {mg : Str -> Option Value} {base : Heap}
theorem way_at {n : Nat} (h1 : 1 <= n) (h4 : n <= 4) : ∃ m : Int, atI [V.int 4, .int 5, .int 6, .int 6] ((n : Int) - 1) = some (.int m) /\ 4 <= m /\ m <= 6 /\ (n < 2 -> m = 4) /\ (n < 3 -> m <= 5) := by
  have : n = 1 \/ n = 2 \/ n = 3 \/ n = 4 := by omega
  rcases this with rfl | rfl | rfl | rfl
  . exact ⟨4, rfl, by omega⟩
  . exact ⟨5, rfl, by omega⟩
  . exact ⟨6, rfl, by omega⟩
  . exact ⟨6, rfl, by omega⟩
theorem scBad : FnScope ["pot", "boxes", "names", "way", "a", "c", "name", "low", "high", "first", "b"] ["pot", "boxes"] (defScope sBad) := ⟨rfl, rfl, rfl, by decide +kernel, rfl, by decide +kernel, by decide +kernel⟩
def Trio (bs : List Box) (xs : List V) : Prop := ∃ (i j k : Nat) (a b c : Box), i < j /\ j < k /\ bs[i]? = some a /\ bs[j]? = some b /\ bs[k]? = some c /\ xs = [.str a.nm, .str b.nm, .str c.nm]
theorem len3 {bs : List Box} (h : bs.length = 3) : ∃ a b c, bs = [a, b, c] := by
  match bs, h with
  | [a, b, c], _ => exact ⟨a, b, c, rfl⟩
theorem len4 {bs : List Box} (h : bs.length = 4) : ∃ a b c d, bs = [a, b, c, d] := by
  match bs, h with
  | [a, b, c, d], _ => exact ⟨a, b, c, d, rfl⟩
theorem ok_bad (h : Has K mg "_law_bad" sBad ["pot", "boxes"]) (B : Blt mg) (cN : Cal P w K mg base 1 "_law_next" ["pot", "many"] spNext) (cS : Cal P w K mg base 2 "_law_strange" ["pot", "names"] spStrange) (cNu : Cal P w K mg base 2 "_law_numbers" ["pot", "low", "high"] spNumbers)
    (cW : Cal P w K mg base 2 "_law_words" ["pot", "one", "low", "high"] spWords) (cF : Cal P w K mg base 2 "_law_figures" ["pot", "one", "low", "high"] spWords) (cT : Cal P w K mg base 2 "_law_two" ["pot", "a", "b"] spTwo) (cH : Cal P w K mg base 2 "_law_three" ["pot", "a", "b", "c"] spThr3) : Cal P w K mg base 3 "_law_bad" ["pot", "boxes"] spBad := by
  refine h.cal scBad (fun vs H Q E h => ?_) (fun f cdv A outer s H vs Q E hr h => ?_)
  . obtain ⟨r, _, _, _, rfl, _⟩ := h
    rfl
  obtain ⟨r, pb, us, bs, rfl, hP, nbr, X, XB, l1, q⟩ := h
  have hr2 : Room 2 _ := hr
  have hr1 : Room 1 _ := hr.mono (by decide)
  refine ⟨_, (dQ (ps_lc (i := 2) (defScope sBad) ["pot", "boxes", "names", "way", "a", "c", "name", "low", "high", "first", "b"] (N := ["box"]) (ix := [none]) rfl scBad.nd rfl (Or.inl rfl) ⟨rfl, by decide +kernel, by decide +kernel, by decide +kernel, rfl, by decide +kernel⟩ (uX (pv 1)) (fun _ _ _ _ => rQ (i := 0) (show (["box"] : List Str).Nodup by decide +kernel) rfl (Or.inl rfl)) (fun _ _ _ _ => eJ) (fun _ _ _ _ => (bZ (ixt K) (pv 0) iQ (fun _ _ => rfl))))
    (dQ (lQ (i := 3) scBad.nd rfl (Or.inl rfl) (nQ cN hr1 rfl (aQ (pv 0) (aQ (bZ vQ (kZ (aQ iQ (aQ iQ (aQ iQ (aQ iQ fQ))))) (pQ iX (cZ zQ rfl B.len eX (aQ (pv 1) fQ)) iQ) (fun _ _ => rfl)) fQ))))
    (dQ (wZ (wQ jX (pv 3) iQ (nomark _)) (mQ (tQ (nQ cS hr2 rfl (aQ (pv 0) (aQ (pv 2) fQ))))) fZ)
    (dQ (lQ (i := 4) scBad.nd rfl (Or.inl rfl) (nQ cN hr1 rfl (aQ (pv 0) (aQ (cZ zQ rfl B.len eX (aQ (pv 1) fQ)) fQ))))
    (dQ (tY (bZ vQ (pv 1) (pv 4) (fun _ _ => rfl)) (iW rfl (hZ (rQ (i := 6) scBad.nd rfl (Or.inl rfl)) (hZ (rQ (i := 7) scBad.nd rfl (Or.inl rfl)) (hZ (rQ (i := 8) scBad.nd rfl (Or.inl rfl)) (hZ (rQ (i := 9) scBad.nd rfl (Or.inl rfl)) lJ))))))
    (dQ (wZ (wQ jX (pv 3) iQ (nomark _)) (mQ (tQ (pQ uQ (pQ uQ (pv 6) oQ) (nQ cNu hr2 rfl (aQ (pv 0) (aQ (pv 7) (aQ (pv 8) fQ))))))) fZ)
    (dQ (wZ (wQ jX (pv 3) iQ (nomark _)) (mQ (tQ (nQ cW hr2 rfl (aQ (pv 0) (aQ (pv 6) (aQ (pv 7) (aQ (pv 8) fQ))))))) fZ)
    (dQ (wZ (wQ jX (pv 3) iQ (nomark _)) (mQ (tQ (nQ cF hr2 rfl (aQ (pv 0) (aQ (pv 6) (aQ (pv 7) (aQ (pv 8) fQ))))))) fZ)
    (dQ (wZ (wQ jX (pv 3) iQ (nomark _)) (dQ (lQ (i := 10) scBad.nd rfl (Or.inl rfl) (nQ cN hr1 rfl (aQ (pv 0) (aQ (pQ iX (cZ zQ rfl B.len eX (aQ (pv 1) fQ)) iQ) fQ))))
    (dQ (lQ (i := 5) scBad.nd rfl (Or.inl rfl) (pQ eZ (pQ eZ (pv 10) iQ) (nQ cN hr1 rfl (aQ (pv 0) (aQ (pQ iX (pQ iX (cZ zQ rfl B.len eX (aQ (pv 1) fQ)) iQ) (pv 10)) fQ)))))
    (mQ (tQ (nQ cT hr2 rfl (aQ (pv 0) (aQ (bZ vQ (pv 2) (pv 10) (fun _ _ => rfl)) (aQ (bZ vQ (pv 2) (pv 5) (fun _ _ => rfl)) fQ)))))))) fZ)
    (dQ (wZ (wQ jX (cZ zQ rfl B.len eX (aQ (pv 2) fQ)) iQ (nomark _)) (mQ (xZ (yX PySem.F.plainAttrs_list PySem.F.slot_list_pop PySem.F.type_list_pop wK (pv 2) (aQ (nQ cN hr1 rfl (aQ (pv 0) (aQ iQ fQ))) fQ)))) fZ)
    (dQ (lQ (i := 5) scBad.nd rfl (Or.inl rfl) (yX PySem.F.plainAttrs_list PySem.F.slot_list_pop PySem.F.type_list_pop wK (pv 2) (aQ (nQ cN hr1 rfl (aQ (pv 0) (aQ iQ fQ))) fQ)))
    (mQ (tQ (nQ cH hr2 rfl (aQ (pv 0) (aQ (bZ vQ (pv 2) iQ (fun _ _ => rfl)) (aQ (bZ vQ (pv 2) iQ (fun _ _ => rfl)) (aQ (pv 5) fQ)))))))))))))))))), ?_⟩
  have hlu := X.each.1
  have l4 := XB.l4
  refine ⟨_, rfl, pb, rfl, ⟨_, SqL.of X.at_⟩, fun D hD => ?_⟩
  refine pW (K := K) (a := pb) (xs := us) (fun i ys σ H2 => ∃ c0 : Option V, σ = [c0] /\ ys = ((bs.map Box.nm).take i).map V.str /\ H2 D = some (.lst ys) /\ Same H H2)
    ⟨none, rfl, rfl, jQ, Same.new hD _⟩ (fun i ys σ H2 _ hh => by obtain ⟨_, _, _, _, e⟩ := hh; exact SqL.of (e _ _ X.at_)) ?_ ?_
  . rintro i x ys σ H2 hi ⟨c0, rfl, rfl, h2, s2⟩
    obtain ⟨b, hb, q2, rfl, hq2⟩ := X.each.at hi
    refine ⟨_, rfl, q2, _, ((0 : Nat) : Int), _, rfl, rfl, SqT.of (s2 _ _ hq2), qZ rfl, h2, small1000 (by rw [List.length_map, List.length_take, List.length_map]; omega), _, rfl, ?_, jQ, fun a o e => by rw [sQ (qQ e hD)]; exact s2 _ _ e⟩
    rw [List.take_add_one, List.getElem?_map, hb, List.map_append]
    rfl
  rintro ys σ H1 ⟨c0, rfl, rfl, h1, s1⟩
  rw [hlu, List.take_of_length_le (by rw [List.length_map]; exact Nat.le_refl _)] at h1
  have P1 := hP.mono s1
  have nDr : D ≠ r := hP.nn hD
  have nm_ : ∀ {i : Nat} {b : Box}, bs[i]? = some b -> atI ((bs.map Box.nm).map V.str) ((i : Nat) : Int) = some (.str b.nm) := fun hb => qZ (by rw [List.map_map, List.getElem?_map, hb]; rfl)
  refine ⟨_, rfl, (by show 4 <= sizeLine; decide), fun pl hpl => ?_⟩
  have s2 := Same.new hpl (.lst [.int 4, .int 5, .int 6, .int 6])
  obtain ⟨m, hm, m4, m6, mA, mB⟩ := way_at l1 l4
  rw [<- hlu] at hm
  refine ⟨_, rfl, pb, us, rfl, .inl (SqL.of (s2 _ _ (s1 _ _ X.at_))), _, _, rfl, rfl, pl, _, _, _, rfl, rfl, SqL.of jQ, hm, r, m, rfl, P1.mono s2, yQ (by omega) (by omega), fun way H2 w0 w1 b2 P2 => ?_⟩
  have b02 : But r H H2 := (But.of (s1.trans s2)).trans b2
  have h2 := b2 _ _ nDr (s2 _ _ h1)
  have X2 := (X.same (s1.trans s2)).but (P1.mono s2) nbr b2
  clear hm h1
  refine ⟨_, rfl, rfl, _, rfl, gX (fun e => ?_) (fun e3 => ?_)⟩
  . exact ⟨_, rfl, _, rfl, r, D, bs, rfl, P2, nDr, h2, XB, l1, fun z H' bz b' P' => q z H' bz (b02.trans b') P'⟩
  have e3 : way ≠ 3 := fun z => e3 (congrArg V.int z)
  refine ⟨_, rfl, _, rfl, pb, us, rfl, .inl (SqL.of X2.at_), r, _, rfl, P2, yQ (by omega) (by omega), fun ai H3 a0 a1 b3 P3 => ?_⟩
  obtain ⟨a, rfl⟩ := Int.eq_ofNat_of_zero_le a0
  have X3 := X2.but P2 nbr b3
  have h3 := b3 _ _ nDr h2
  have b03 := b02.trans b3
  obtain ⟨v, b, hv, hb, pq, rfl, hpq⟩ := X3.each.get (i := a) (by omega)
  refine ⟨_, rfl, _, rfl, pb, _, _, _, rfl, rfl, SqL.of X3.at_, qZ hv, pq, _, rfl, SqT.of hpq, rfl, _, _, rfl, _, _, rfl, _, _, rfl, _, _, rfl, rfl, ?_⟩
  have ok := XB.ok b (List.mem_of_getElem? hb)
  have l0 := ok.lo
  have l9 := ok.hi
  have lm := Int.le_trans ok.fl ok.fh
  have n8 := (XB.N.ok _ (Bx.mem hb)).l8
  refine ⟨_, rfl, rfl, _, rfl, gX (fun e => ?_) (fun e0 => ?_)⟩
  . refine ⟨_, rfl, _, _, rfl, rfl, zZ (by have : (" " : Str).length = 1 := rfl; omega), _, rfl, _, rfl, _, rfl, r, b.lo, b.hi, rfl, P3, l0, lm, l9, fun z n m H' n0 n1 m0 m1 hz zl b' P' => ?_⟩
    exact ⟨_, _, rfl, rfl, (by rw [sizeLine_eq, oZ]; have : (" " : Str).length = 1 := rfl; omega), q _ H' (nums_bad XB hb n0 n1 m0 m1 l0 l9 z hz) (b03.trans b') P'⟩
  have e0 : way ≠ 0 := fun z => e0 (congrArg V.int z)
  refine ⟨_, rfl, rfl, _, rfl, gX (fun e => ?_) (fun e1 => ?_)⟩
  . exact ⟨_, rfl, _, rfl, _, rfl, _, rfl, r, bs, a, b, rfl, P3, XB, hb, fun z H' bz b' P' => q z H' bz (b03.trans b') P'⟩
  have e1 : way ≠ 1 := fun z => e1 (congrArg V.int z)
  refine ⟨_, rfl, rfl, _, rfl, gX (fun e => ?_) (fun e2 => ?_)⟩
  . exact ⟨_, rfl, _, rfl, _, rfl, _, rfl, r, bs, a, b, rfl, P3, XB, hb, fun z H' bz b' P' => q z H' bz (b03.trans b') P'⟩
  have e2 : way ≠ 2 := fun z => e2 (congrArg V.int z)
  refine ⟨_, rfl, rfl, _, rfl, gX (fun e => ?_) (fun e4 => ?_)⟩
  . have e : way = 4 := V.int.inj e
    have n2 : 2 <= bs.length := by omega
    refine ⟨_, rfl, _, rfl, pb, us, rfl, .inl (SqL.of X3.at_), _, _, rfl, rfl, r, _, rfl, P3, yQ (by omega) (by omega), fun bi H4 i0 i1 b4 P4 => ?_⟩
    obtain ⟨i, rfl⟩ := Int.eq_ofNat_of_zero_le i0
    have X4 := X3.but P3 nbr b4
    have h4 := b4 _ _ nDr h3
    refine ⟨_, rfl, _, _, rfl, rfl, _, rfl, _, rfl, pb, us, rfl, .inl (SqL.of X4.at_), _, _, rfl, rfl, _, rfl, _, _, rfl, rfl, r, _, rfl, P4, yQ (by omega) (by omega), fun ci H5 j0 j1 b5 P5 => ?_⟩
    obtain ⟨j, rfl⟩ := Int.eq_ofNat_of_zero_le j0
    have h5 := b5 _ _ nDr h4
    obtain ⟨x, hx⟩ : ∃ x, bs[i]? = some x := ⟨bs[i]'(by omega), List.getElem?_eq_getElem (by omega)⟩
    obtain ⟨y, hy⟩ : ∃ y, bs[i + 1 + j]? = some y := ⟨bs[i + 1 + j]'(by omega), List.getElem?_eq_getElem (by omega)⟩
    refine ⟨_, _, rfl, rfl, ?_⟩
    exact ⟨_, rfl, _, rfl, _, rfl, D, _, _, _, rfl, rfl, SqL.of h5, nm_ hx, _, rfl, _, rfl, D, _, _, _, rfl, rfl, SqL.of h5, (nm_ hy : atI _ ((i + 1 + j : Nat) : Int) = _), r, bs, i, i + 1 + j, x, y, rfl, P5, XB, hx, hy, by omega, fun z H' bz b' P' => q z H' bz (b03.trans (b4.trans (b5.trans b'))) P'⟩
  have e4 : way ≠ 4 := fun z => e4 (congrArg V.int z)
  have n3 : bs.length = 3 \/ bs.length = 4 := by omega
  refine nxs (pJ (fun σ' H' => ∃ (c5 c10 : Option V) (xs : List V), σ' = [some (.ref r), some (.ref pb), some (.ref D), some (.int way), some (.int (a : Int)), c5, some (.str b.nm), some (.int b.lo), some (.int b.hi), some (.int b.fst), c10] /\ Trio bs xs /\ H' D = some (.lst xs) /\ But r H H' /\ PotAt H' r) (fun R' hR' => ?_) ?_)
  . refine ⟨_, rfl, D, _, rfl, .inl (SqL.of h3), rfl, _, rfl, ?_⟩
    rcases n3 with n3 | n3
    . obtain ⟨x, y, z, rfl⟩ := len3 n3
      refine iteF ?_
      exact hR' _ _ ⟨_, _, _, rfl, ⟨0, 1, 2, x, y, z, by decide, by decide, rfl, rfl, rfl, rfl⟩, h3, b03, P3⟩
    . obtain ⟨x, y, z, u, rfl⟩ := len4 n3
      refine iteT ?_
      refine ⟨_, rfl, .inl ⟨rfl, _, SqL.of h3⟩, _, rfl, r, 4, rfl, P3, yQ (by decide) (by decide), fun k H4 k0 k1 b4 P4 => ?_⟩
      have h4 := b4 _ _ nDr h3
      have bu : ∀ xs : List V, But r H (upd H4 D (.lst xs)) := fun xs => (b03.trans b4).put hD
      have pu : ∀ xs : List V, PotAt (upd H4 D (.lst xs)) r := fun xs => P4.up nDr.symm
      have : k = 0 \/ k = 1 \/ k = 2 \/ k = 3 := by omega
      rcases this with rfl | rfl | rfl | rfl
      . exact ⟨D, _, 0, 0, _, rfl, rfl, h4, by decide, by decide, rfl, rfl, hR' _ _ ⟨_, _, _, rfl, ⟨1, 2, 3, y, z, u, by decide, by decide, rfl, rfl, rfl, rfl⟩, jQ, bu _, pu _⟩⟩
      . exact ⟨D, _, 1, 1, _, rfl, rfl, h4, by decide, by decide, rfl, rfl, hR' _ _ ⟨_, _, _, rfl, ⟨0, 2, 3, x, z, u, by decide, by decide, rfl, rfl, rfl, rfl⟩, jQ, bu _, pu _⟩⟩
      . exact ⟨D, _, 2, 2, _, rfl, rfl, h4, by decide, by decide, rfl, rfl, hR' _ _ ⟨_, _, _, rfl, ⟨0, 1, 3, x, y, u, by decide, by decide, rfl, rfl, rfl, rfl⟩, jQ, bu _, pu _⟩⟩
      . exact ⟨D, _, 3, 3, _, rfl, rfl, h4, by decide, by decide, rfl, rfl, hR' _ _ ⟨_, _, _, rfl, ⟨0, 1, 2, x, y, z, by decide, by decide, rfl, rfl, rfl, rfl⟩, jQ, bu _, pu _⟩⟩
  rintro σ' H4 ⟨c5, c10, xs, rfl, ⟨i, j, k, x, y, z, hij, hjk, hx, hy, hz, rfl⟩, h4, b4, P4⟩
  refine ⟨_, rfl, .inl ⟨rfl, _, SqL.of h4⟩, _, rfl, r, 3, rfl, P4, yQ (by decide) (by decide), fun g H5 g0 g1 b5 P5 => ?_⟩
  have h5 := b5 _ _ nDr h4
  have bu : ∀ xs : List V, But r H (upd H5 D (.lst xs)) := fun xs => (b4.trans b5).put hD
  have pu : ∀ xs : List V, PotAt (upd H5 D (.lst xs)) r := fun xs => P5.up nDr.symm
  have : g = 0 \/ g = 1 \/ g = 2 := by omega
  rcases this with rfl | rfl | rfl
  . refine ⟨D, _, 0, 0, _, rfl, rfl, h5, by decide, by decide, rfl, rfl, ?_⟩
    exact ⟨_, rfl, _, rfl, D, _, 0, _, rfl, rfl, SqL.of jQ, rfl, _, rfl, D, _, 1, _, rfl, rfl, SqL.of jQ, rfl, _, rfl, r, bs, j, k, i, y, z, x, rfl, pu _, XB, hy, hz, hx, hjk, by omega, by omega, fun z H' bz b' P' => q z H' bz ((bu _).trans b') P'⟩
  . refine ⟨D, _, 1, 1, _, rfl, rfl, h5, by decide, by decide, rfl, rfl, ?_⟩
    exact ⟨_, rfl, _, rfl, D, _, 0, _, rfl, rfl, SqL.of jQ, rfl, _, rfl, D, _, 1, _, rfl, rfl, SqL.of jQ, rfl, _, rfl, r, bs, i, k, j, x, z, y, rfl, pu _, XB, hx, hz, hy, by omega, by omega, by omega, fun z H' bz b' P' => q z H' bz ((bu _).trans b') P'⟩
  . refine ⟨D, _, 2, 2, _, rfl, rfl, h5, by decide, by decide, rfl, rfl, ?_⟩
    exact ⟨_, rfl, _, rfl, D, _, 0, _, rfl, rfl, SqL.of jQ, rfl, _, rfl, D, _, 1, _, rfl, rfl, SqL.of jQ, rfl, _, rfl, r, bs, i, j, k, x, y, z, rfl, pu _, XB, hx, hy, hz, hij, by omega, by omega, fun z H' bz b' P' => q z H' bz ((bu _).trans b') P'⟩
end
structure Refs (K : PySem.W.Frag) (mg : Str -> Option Value) (NS : Addr) : Prop where
  nm : mg "NoSaying" = some (.ref NS)
  exm : PySem.W.exmOne K (.ref NS) (.ref NS) = some true
  xc : XCls K NS
  ve : PySem.W.kitOne K (.ref NS) (.type "ValueError") = some true
  se : ∃ D, mg "SayError" = some (.ref D) /\ PySem.W.kitOne K (.ref NS) (.ref D) = some true
  nr : ∃ D, mg "NoRow" = some (.ref D) /\ PySem.W.kitOne K (.ref NS) (.ref D) = some false
  nb : ∃ D, mg "NoBox" = some (.ref D) /\ PySem.W.kitOne K (.ref NS) (.ref D) = some false
  nf : ∃ D, mg "NoForm" = some (.ref D) /\ PySem.W.kitOne K (.ref NS) (.ref D) = some false
theorem bt_VE : bootBuiltins "ValueError" = some (.type "ValueError") := by decide +kernel
def spRefused : Sp := fun vs H Q _ => ∃ (pp pb : Addr) (us : List V) (bs : List Box) (x : V) (z : Str), vs = [.ref pp, .str z] /\ H pp = some (.tup [.ref pb, x]) /\ BoxesAt H pb us bs /\ Bx bs /\ Bad bs z /\ ∀ H', Same H H' -> Q (.bl true) H'
def spCase : Sp := fun vs H Q _ => ∃ cell : Int, vs = [.int cell] /\ ∀ H', Same H H' -> Q (.bl true) H'
section
variable {P : Program} {w : World} {K : PySem.W.Frag} {mg : Str -> Option Value} {base : Heap} {NS : Addr}
theorem scRefused : FnScope ["program", "line", "good", "e"] ["program", "line"] (defScope sRefused) := ⟨rfl, rfl, rfl, by decide +kernel, rfl, by decide +kernel, by decide +kernel⟩
theorem lO (h : Has K mg "_law_refused" sRefused ["program", "line"]) (B : Blt mg) (R : Refs K mg NS) (cR : CalR P w K mg base 5 "read_saying" ["program", "text"] (spReadX NS)) : Cal P w K mg base 6 "_law_refused" ["program", "line"] spRefused := by
  refine h.cal scRefused (fun vs H Q E h => ?_) (fun f cdv A outer s H vs Q E hr h => ?_)
  . obtain ⟨pp, pb, us, bs, x, z, rfl, _⟩ := h
    rfl
  obtain ⟨pp, pb, us, bs, x, z, rfl, hpp, X, XB, bad, q⟩ := h
  obtain ⟨DS, mS, kS⟩ := R.se
  obtain ⟨DR, mR, kR⟩ := R.nr
  obtain ⟨DB, mB, kB⟩ := R.nb
  obtain ⟨DF, mF, kF⟩ := R.nf
  refine ⟨_, (dQ (lQ (i := 2) scRefused.nd rfl (Or.inl rfl) pK)
    (dQ (ps_tryN (i := 3) scRefused.nd rfl rfl (pbs_one (pb_expr cR hr rfl (aQ (pv 0) (aQ (pv 1) fQ)))) rfl R.nm
      (fun ea => (dQ (lQ (i := 2) scRefused.nd rfl (Or.inl rfl) (sY (cZ (xJ K) rfl B.isinstance tZ (aQ (pv 3) (aQ (tX (v := .ref DS) rfl mS rfl) fQ))) (pe_one (cZ (xJ K) rfl B.isinstance tZ (aQ (pv 3) (aQ (mO (v := .ty "ValueError") rfl B.ValueError bt_VE rfl) fQ))))))
        (mQ (lQ (i := 2) scRefused.nd rfl (Or.inl rfl) (sY (pv 2) (sY (sU (cZ (xJ K) rfl B.isinstance tZ (aQ (pv 3) (aQ (tX (v := .ref DR) rfl mR rfl) fQ)))) (sY (sU (cZ (xJ K) rfl B.isinstance tZ (aQ (pv 3) (aQ (tX (v := .ref DB) rfl mB rfl) fQ)))) (pe_one (sU (cZ (xJ K) rfl B.isinstance tZ (aQ (pv 3) (aQ (tX (v := .ref DF) rfl mF rfl) fQ)))))))))))))
    (mQ (tQ (pv 2))))), ?_⟩
  refine ⟨_, rfl, _, rfl, pp, pb, us, bs, x, z, rfl, hpp, X, XB.ok, XB.l4, XB.N, fun s p H1 of tx s1 hp => absurd tx (bad s of), fun _ H1 s1 => ⟨NS, rfl, R.exm, fun ea hea => ?_⟩⟩
  have hx : L2.upd H1 ea (XO ea NS) ea = some (XO ea NS) := jQ
  refine ⟨_, rfl, ea, NS, _, _, _, rfl, hx, R.xc, rfl, (fun _ h => h), kS, _, rfl, iteB rfl ?_⟩
  refine ⟨_, rfl, ea, NS, _, _, _, rfl, hx, R.xc, rfl, (fun _ h => h), R.ve, ?_⟩
  refine ⟨_, rfl, _, rfl, iteB rfl ?_⟩
  refine ⟨_, rfl, ea, NS, _, _, _, rfl, hx, R.xc, rfl, (fun _ h => h), kR, _, rfl, _, rfl, iteB rfl ?_⟩
  refine ⟨_, rfl, ea, NS, _, _, _, rfl, hx, R.xc, rfl, (fun _ h => h), kB, _, rfl, _, rfl, iteB rfl ?_⟩
  refine ⟨_, rfl, ea, NS, _, _, _, rfl, hx, R.xc, rfl, (fun _ h => h), kF, _, rfl, ?_⟩
  exact ⟨_, rfl, q _ (s1.trans (Same.new hea _))⟩
end
def spRead : Sp := fun vs H Q _ => ∃ (pp pb : Addr) (us : List V) (bs : List Box) (x : V) (s : Say), vs = [.ref pp, .str (s.text (bs.map Box.nm))] /\ H pp = some (.tup [.ref pb, x]) /\ BoxesAt H pb us bs /\ (∀ b ∈ bs, b.Ok) /\ bs.length <= 4 /\ Nms (bs.map Box.nm) /\ s.Of bs /\
  ∀ (p : Addr) (H' : Hp), Same H H' -> H' p = some (.tup s.tup) -> Q (.ref p) H'
section
variable {P : Program} {w : World} {K : PySem.W.Frag} {mg : Str -> Option Value} {base : Heap}
theorem ok_read (h : Has K mg "read_saying" sPReadSaying ["program", "text"]) (cS : Cal P w K mg base 4 "sayings" ["program"] spSayings) (cH : Cal P w K mg base 1 "shown_saying" ["program", "saying"] spShown) : Cal P w K mg base 5 "read_saying" ["program", "text"] spRead := by
  refine h.cal scRead (fun vs H Q E h => ?_) (fun f cdv A outer s H vs Q E hr h => ?_)
  . obtain ⟨pp, pb, us, bs, x, s, rfl, _⟩ := h
    rfl
  obtain ⟨pp, pb, us, bs, x, s, rfl, hpp, X, ok, l4, N, of, q⟩ := h
  have hr4 : Room 4 _ := hr
  have hr1 : Room 1 _ := hr.mono (by decide)
  refine ⟨_, (dQ (aX PassesOwn.never rfl (uX (nQ cS hr4 rfl (aQ (pv 0) fQ))) (rQ (i := 2) scRead.nd rfl (Or.inl rfl)) (mQ (wZ (wQ jX (nQ cH hr1 rfl (aQ (pv 0) (aQ (pv 2) fQ))) (pv 1) (nomark _)) (mQ (tQ (pv 2))) fZ)))
    (mQ (ps_never))), ?_⟩
  refine ⟨_, rfl, pp, pb, x, us, bs, rfl, hpp, X, ok, l4, fun pt ut H1 hpt s1 T1 tl => ?_⟩
  have nl : (bs.map Box.nm).length = bs.length := List.length_map _
  have n8 : ∀ b ∈ bs, b.nm.length <= 8 := fun b hb => (N.ok _ (List.mem_map_of_mem hb)).l8
  refine ⟨pt, rfl, ⟨_, SqL.of T1.at_⟩, sJ (K := K) (a := pt) (xs := ut) (fun i σ H2 => (∃ c2 : Option V, σ = [some (.ref pp), some (.str (s.text (bs.map Box.nm))), c2]) /\ (∀ j t, j < i -> (sayl bs)[j]? = some t -> t ≠ s) /\ Same H1 H2)
    ⟨⟨none, rfl⟩, fun j t hj => absurd hj (Nat.not_lt_zero j), Same.refl _⟩ (fun i σ H2 _ hh => by obtain ⟨_, _, e⟩ := hh; exact SqL.of (e _ _ T1.at_)) ?_ ?_⟩
  . rintro i v σ H2 hi ⟨⟨c2, rfl⟩, hne, s2⟩
    obtain ⟨t, ht, p, rfl, hp⟩ := T1.each.at hi
    have tof := sayl_of (List.mem_of_getElem? ht)
    have tsm := mZ tof ok l4
    have s02 := s1.trans s2
    refine ⟨_, rfl, _, rfl, pp, pb, p, us, bs, x, t, rfl, s02 _ _ hpp, X.same s02, s2 _ _ hp, tof.inn, (fun y hy => (tsm y hy).wide), n8, fun H3 s3 => ?_⟩
    refine ⟨_, rfl, rfl, _, rfl, gX (fun e => ?_) (fun e => ?_)⟩
    . have e := V.str.inj e
      have ets := text_inj N (by rw [nl]; exact tof.inn) (by rw [nl]; exact of.inn) tsm (mZ of ok l4) e
      subst ets
      exact ⟨_, rfl, q p H3 (s02.trans s3) (s3 _ _ (s2 _ _ hp))⟩
    . refine ⟨⟨_, rfl⟩, fun j u hj hu => ?_, s2.trans s3⟩
      rcases Nat.lt_succ_iff_lt_or_eq.mp hj with h1 | h1
      . exact hne j u h1 hu
      . subst h1
        rw [ht] at hu
        cases hu
        intro z
        exact e (by rw [z])
  . rintro σ H2 ⟨_, hne, _⟩
    obtain ⟨j, hj, e⟩ := List.getElem_of_mem (say_in of)
    exact absurd rfl (hne j s (by rw [T1.each.1]; exact hj) (by rw [List.getElem?_eq_getElem hj, e]))
theorem nm8 {ts : List Str} {most : Int} {bs : List Box} (dr : Drawn ts most bs) (hok : ∀ t ∈ ts, NameOk t) : ∀ b ∈ bs, NameOk b.nm := fun b hb => by
  have hm : b.nm ∈ bs.map Box.nm := List.mem_map_of_mem hb
  rcases dr.nms with e | e
  . rw [e] at hm
    exact hok _ (List.mem_of_mem_take hm)
  . rw [e, List.mem_reverse] at hm
    exact hok _ (List.mem_of_mem_take hm)
theorem nms_nd {ts : List Str} {most : Int} {bs : List Box} (dr : Drawn ts most bs) (h : ts.Nodup) : (bs.map Box.nm).Nodup := by
  have hk : (ts.take bs.length).Nodup := List.Sublist.nodup (List.take_sublist _ _) h
  rcases dr.nms with e | e
  . rw [e]; exact hk
  . rw [e]; exact List.pairwise_reverse.mpr (hk.imp fun h => Ne.symm h)
theorem last_box {us : List V} {bs : List Box} {H : Hp} (h : All2 (BoxAt H) us bs) (l : 1 <= bs.length) : ∃ (b : Box) (p : Addr), atI us (-1) = some (.ref p) /\ H p = some (.tup b.tup) /\ bs[bs.length - 1]? = some b := by
  have hl := h.1
  obtain ⟨v, b, hv, hb, p, rfl, hp⟩ := h.get (i := bs.length - 1) (by omega)
  refine ⟨b, p, ?_, hp, hb⟩
  have e : ixN us.length (-1) = some (bs.length - 1) := by
    unfold ixN
    rw [hl]
    simp
    omega
  unfold atI
  rw [e]
  exact hv
theorem nev_text (nms : List Str) (a : Nat) (n : Int) : (Say.nev a n).text nms = ((nms.getD a "" ++ " not ") ++ (toString n : Str)) := by
  rw [mV]
  refine gK ?_
  rw [show Say.ws nms (.nev a n) = [nms.getD a "", "not", (toString n : Str)] from rfl, kK, gQ, gQ, lit3]
  show cs _ ++ 32 :: (cs "not" ++ 32 :: cs _) = _
  rw [lit14]
  simp
theorem scCase : FnScope ["cell", "pot", "names", "boxes", "program", "line", "name", "low", "high", "first", "told"] ["cell"] (defScope sCase) := ⟨rfl, rfl, rfl, by decide +kernel, rfl, by decide +kernel, by decide +kernel⟩
theorem ok_case (h : Has K mg "_law_case" sCase ["cell"]) (B : Blt mg) (cM : Cal P w K mg base 3 "_law_names" ["pot"] spNames) (cB : Cal P w K mg base 2 "_law_boxes" ["pot", "most", "names"] spBoxes) (cD : Cal P w K mg base 3 "_law_bad" ["pot", "boxes"] spBad) (cF : Cal P w K mg base 6 "_law_refused" ["program", "line"] spRefused) (cR : Cal P w K mg base 5 "read_saying" ["program", "text"] spRead) : Cal P w K mg base 7 "_law_case" ["cell"] spCase := by
  refine h.cal scCase (fun vs H Q E h => ?_) (fun f cdv A outer s H vs Q E hr h => ?_)
  . obtain ⟨c, rfl, _⟩ := h
    rfl
  obtain ⟨cell, rfl, q⟩ := h
  have hr6 : Room 6 _ := hr
  have hr5 : Room 5 _ := hr.mono (by decide)
  have hr3 : Room 3 _ := hr.mono (by decide)
  have hr2 : Room 2 _ := hr.mono (by decide)
  have hr1 : Room 1 _ := hr.mono (by decide)
  refine ⟨_, (dQ (lQ (i := 1) scCase.nd rfl (Or.inl rfl) (kZ (aQ (pv 0) (aQ iQ fQ))))
    (dQ (lQ (i := 2) scCase.nd rfl (Or.inl rfl) (nQ cM hr3 rfl (aQ (pv 1) fQ)))
    (dQ (lQ (i := 3) scCase.nd rfl (Or.inl rfl) (nQ cB hr2 rfl (aQ (pv 1) (aQ iQ (aQ (pv 2) fQ)))))
    (dQ (lQ (i := 4) scCase.nd rfl (Or.inl rfl) (bX (aQ (iJ yY rfl B.list bt_list (aQ (pv 3) fQ)) (aQ (kZ (aQ (bX (aQ oQ (aQ (bZ vQ (pv 2) iQ (fun _ _ => rfl)) fQ))) (aQ (bX (aQ oQ fQ)) fQ))) fQ))))
    (dQ (lQ (i := 5) scCase.nd rfl (Or.inl rfl) (nQ cD hr3 rfl (aQ (pv 1) (aQ (pv 3) fQ))))
    (dQ (wZ (qU (pU (nQ cF hr6 rfl (aQ (pv 4) (aQ (pv 5) fQ))))) (mQ (tQ pK)) fZ)
    (dQ (tY (bZ vQ (pv 3) (gY wW iQ) (fun _ _ => rfl)) (iW rfl (hZ (rQ (i := 6) scCase.nd rfl (Or.inl rfl)) (hZ (rQ (i := 7) scCase.nd rfl (Or.inl rfl)) (hZ (rQ (i := 8) scCase.nd rfl (Or.inl rfl)) (hZ (rQ (i := 9) scCase.nd rfl (Or.inl rfl)) lJ))))))
    (dQ (lQ (i := 10) scCase.nd rfl (Or.inl rfl) (nQ cR hr5 rfl (aQ (pv 4) (aQ (pQ uQ (pQ uQ (pv 6) oQ) (iJ aJ rfl B.str zU (aQ (pv 9) fQ))) fQ))))
    (dQ (wZ (PW.pt (pw_or (qU (pU (cZ xK rfl B.isinstance tZ (aQ (pv 10) (aQ (mO (v := .ty "tuple") rfl B.tuple bt_tuple rfl) fQ))))) (pw_or1 (wQ (op_neA hr1.units) (pv 10) (bX (aQ oQ (aQ (pQ iX (cZ zQ rfl B.len eX (aQ (pv 3) fQ)) iQ) (aQ (pv 9) fQ)))) (nomark _))))) (mQ (tQ pK)) fZ)
    (mQ (tQ (pe_cmpR (op_eqA hr1.units) (pv 4) (bX (aQ (pv 3) (aQ (kZ (aQ (bX (aQ oQ (aQ (bZ vQ (pv 2) iQ (fun _ _ => rfl)) fQ))) (aQ (bX (aQ oQ fQ)) fQ))) fQ))) (nomark _))))))))))))), ?_⟩
  refine ⟨_, rfl, (by show 2 <= sizeLine; decide), fun r hr0 => ?_⟩
  have P1 : PotAt (upd H r (.lst [.int cell, .int 0])) r := ⟨_, _, jQ⟩
  have s1 := Same.new hr0 (.lst [.int cell, .int 0])
  generalize upd H r (.lst [.int cell, .int 0]) = H1 at *
  refine ⟨_, rfl, r, rfl, P1, fun pn ts H2 hpn b2 P2 hn2 tl tnd tok => ?_⟩
  have nnr : pn ≠ r := P1.nn hpn
  refine ⟨_, rfl, _, rfl, r, pn, 400, ts, rfl, P2, by decide, by decide, hn2, nnr, by omega, fun pb ub bs H3 hpb nbr b3 P3 X3 dr => ?_⟩
  have hnm := nm8 dr tok
  have XB : Bx bs := ⟨⟨nms_nd dr tnd, fun x hx => by obtain ⟨b, hb, rfl⟩ := List.mem_map.mp hx; exact hnm b hb⟩, dr.ok, dr.l4⟩
  have l1 := dr.l1
  have l4 := dr.l4
  have hlu := X3.each.1
  have hn3 := b3 _ _ nnr hn2
  refine ⟨_, rfl, pb, ub, rfl, .inl (SqL.of X3.at_), fun g1 hg1 => ?_⟩
  have u1 := Same.new hg1 (.lst ub)
  have k1 : upd H3 g1 (.lst ub) g1 = some (.lst ub) := jQ
  generalize upd H3 g1 (.lst ub) = H4 at *
  refine ⟨_, rfl, pn, _, ((3 : Nat) : Int), _, rfl, rfl, SqL.of (u1 _ _ hn3), nm_at (by omega), (by show 2 <= sizeLine; decide), fun t1 h1 => ?_⟩
  have u2 := Same.new h1 (.tup [.str "mark", .str (ts.getD 3 "")])
  have k2 : upd H4 t1 (.tup [.str "mark", .str (ts.getD 3 "")]) t1 = some (.tup [.str "mark", .str (ts.getD 3 "")]) := jQ
  generalize upd H4 t1 (.tup [.str "mark", .str (ts.getD 3 "")]) = H5 at *
  refine ⟨(by show 1 <= sizeLine; decide), fun t2 h2 => ?_⟩
  have u3 := Same.new h2 (.tup [.str "stop"])
  have k3 : upd H5 t2 (.tup [.str "stop"]) t2 = some (.tup [.str "stop"]) := jQ
  generalize upd H5 t2 (.tup [.str "stop"]) = H6 at *
  refine ⟨(by show 2 <= sizeLine; decide), fun l hl => ?_⟩
  have u4 := Same.new hl (.lst [.ref t1, .ref t2])
  have k4 : upd H6 l (.lst [.ref t1, .ref t2]) l = some (.lst [.ref t1, .ref t2]) := jQ
  generalize upd H6 l (.lst [.ref t1, .ref t2]) = H7 at *
  refine ⟨(by show 2 <= sizeLine; decide), fun g3 hg3 => ?_⟩
  have u5 := Same.new hg3 (.tup [.ref g1, .ref l])
  have k5 : upd H7 g3 (.tup [.ref g1, .ref l]) g3 = some (.tup [.ref g1, .ref l]) := jQ
  generalize upd H7 g3 (.tup [.ref g1, .ref l]) = H8 at *
  have u38 := u1.trans (u2.trans (u3.trans (u4.trans u5)))
  have P8 := P3.mono u38
  have X8 := X3.same u38
  refine ⟨_, rfl, _, rfl, r, pb, ub, bs, rfl, P8, nbr, X8, XB, l1, fun z H9 bad b9 P9 => ?_⟩
  have g1r : g1 ≠ r := P3.nn hg1
  have t1r : t1 ≠ r := (P3.mono u1).nn h1
  have lr : l ≠ r := (P3.mono (u1.trans (u2.trans u3))).nn hl
  have X9 := X8.but P8 nbr b9
  have k1' := b9 _ _ g1r ((u2.trans (u3.trans (u4.trans u5))) _ _ k1)
  have k2' := b9 _ _ t1r ((u3.trans (u4.trans u5)) _ _ k2)
  have k3' := b9 _ _ (P8.ne_tup ((u4.trans u5) _ _ k3)) ((u4.trans u5) _ _ k3)
  have k4' := b9 _ _ lr (u5 _ _ k4)
  have k5' := b9 _ _ (P8.ne_tup k5) k5
  have hn9 := b9 _ _ nnr (u38 _ _ hn3)
  have B9 : BoxesAt H9 g1 ub bs := ⟨k1', X9.each⟩
  have b19 : But r H1 H9 := b2.trans (b3.trans ((But.of u38).trans b9))
  have s9 : Same H H9 := fun c u y => b19 _ _ (qQ y hr0) (s1 _ _ y)
  clear k1 k2 k3 k4 k5 u1 u2 u3 u4 u5
  refine ⟨_, rfl, _, rfl, g3, g1, ub, bs, .ref l, z, rfl, k5', B9, XB, bad, fun H10 s10 => ?_⟩
  refine ⟨_, rfl, iteF ?_⟩
  have X10 := X9.same s10
  obtain ⟨b, p, eb, hp, hb⟩ := last_box X10.each l1
  refine ⟨_, rfl, _, rfl, pb, _, -1, _, rfl, rfl, SqL.of X10.at_, eb, p, _, rfl, SqT.of hp, rfl, _, _, rfl, _, _, rfl, _, _, rfl, _, _, rfl, rfl, ?_⟩
  have ok := XB.ok b (List.mem_of_getElem? hb)
  have n8 := (XB.N.ok _ (Bx.mem hb)).l8
  have f0 := ok.lo
  have f1 := ok.fl
  have f2 := ok.fh
  have f3 := ok.hi
  obtain ⟨ml, m2⟩ := rW (n := b.fst) (by omega) (by omega)
  have e5 : (" not " : Str).length = 5 := rfl
  have of : (Say.nev (bs.length - 1) b.fst).Of bs := .inl ⟨b, hb, f1, f2⟩
  have tx : (b.nm ++ " not ") ++ (toString b.fst : Str) = (Say.nev (bs.length - 1) b.fst).text (bs.map Box.nm) := by rw [nev_text, XB.nm hb]
  refine ⟨_, rfl, _, rfl, _, _, rfl, rfl, zZ (by omega), _, rfl, _, rfl, ml, _, _, rfl, rfl, zZ (by rw [oZ]; omega), ?_⟩
  rw [tx]
  refine ⟨g3, g1, ub, bs, .ref l, _, rfl, s10 _ _ k5', B9.same s10, dr.ok, l4, XB.N, of, fun pt H11 s11 ht => ?_⟩
  have X11 := X10.same s11
  refine ⟨_, rfl, _, _, _, _, rfl, TyOf.tup ht, rfl, _, rfl, iteF ?_⟩
  refine ⟨_, rfl, _, rfl, pb, ub, rfl, .inl (SqL.of X11.at_), _, _, rfl, rfl, _, rfl, (by show 3 <= sizeLine; decide), fun pe he => ?_⟩
  have s12 := Same.new he (.tup [.str "never", .int ((ub.length : Int) - 1), .int b.fst])
  have ht2 : H11 pt = some (.tup [.str "never", .int ((ub.length : Int) - 1), .int b.fst]) := by
    have e : ((bs.length - 1 : Nat) : Int) = (ub.length : Int) - 1 := by omega
    rw [<- e]
    exact ht
  refine ⟨2, pt, pe, by decide, rfl, rfl, .inl ⟨_, s12 _ _ ht2⟩, xW 0 (s12 _ _ ht2) jQ (by show 3 <= 8388608; decide) (fun x hx => by
    simp only [List.mem_cons, List.not_mem_nil, or_false] at hx
    rcases hx with rfl | rfl | rfl <;> exact .inl rfl), _, rfl, iteF ?_⟩
  generalize upd H11 pe (.tup [.str "never", .int ((ub.length : Int) - 1), .int b.fst]) = H12 at *
  have s912 := s10.trans (s11.trans s12)
  have X12 := X9.same s912
  refine ⟨_, rfl, _, rfl, _, rfl, pn, _, ((3 : Nat) : Int), _, rfl, rfl, SqL.of (s912 _ _ hn9), nm_at (by omega), (by show 2 <= sizeLine; decide), fun t3 h3 => ?_⟩
  have v1 := Same.new h3 (.tup [.str "mark", .str (ts.getD 3 "")])
  have j1 : upd H12 t3 (.tup [.str "mark", .str (ts.getD 3 "")]) t3 = some (.tup [.str "mark", .str (ts.getD 3 "")]) := jQ
  generalize upd H12 t3 (.tup [.str "mark", .str (ts.getD 3 "")]) = H13 at *
  refine ⟨(by show 1 <= sizeLine; decide), fun t4 h4 => ?_⟩
  have v2 := Same.new h4 (.tup [.str "stop"])
  have j2 : upd H13 t4 (.tup [.str "stop"]) t4 = some (.tup [.str "stop"]) := jQ
  generalize upd H13 t4 (.tup [.str "stop"]) = H14 at *
  refine ⟨(by show 2 <= sizeLine; decide), fun l2 hl2 => ?_⟩
  have v3 := Same.new hl2 (.lst [.ref t3, .ref t4])
  have j3 : upd H14 l2 (.lst [.ref t3, .ref t4]) l2 = some (.lst [.ref t3, .ref t4]) := jQ
  generalize upd H14 l2 (.lst [.ref t3, .ref t4]) = H15 at *
  refine ⟨(by show 2 <= sizeLine; decide), fun g4 hg4 => ?_⟩
  have v4 := Same.new hg4 (.tup [.ref pb, .ref l2])
  have j4 : upd H15 g4 (.tup [.ref pb, .ref l2]) g4 = some (.tup [.ref pb, .ref l2]) := jQ
  generalize upd H15 g4 (.tup [.ref pb, .ref l2]) = H16 at *
  have v916 := s912.trans (v1.trans (v2.trans (v3.trans v4)))
  have X16 := X9.same v916
  have refb : ∀ u ∈ ub, Pl u := fun u hu => by
    obtain ⟨i, hi, e⟩ := List.getElem_of_mem hu
    obtain ⟨o, _, p, e', _⟩ := X16.each.at (i := i) (x := u) (by rw [List.getElem?_eq_getElem hi, e])
    exact .inr ⟨p, e'⟩
  have fl : ∀ zs : List Str, ∀ x ∈ zs.map V.str, Pl x := fun zs x hx => by obtain ⟨z, _, rfl⟩ := List.mem_map.mp hx; exact .inl rfl
  refine ⟨4, g3, g4, by decide, rfl, rfl, .inl ⟨_, v916 _ _ k5'⟩, alk_pair (v916 _ _ k5') j4 (alk_same 1 (v916 _ _ k1') X16.at_ (by omega) refb) (wO (v916 _ _ k4') (v4 _ _ j3) rfl (by show 2 <= 8388608; decide) fun i x y hx hy => ?_), q _ (s9.trans v916)⟩
  match i, hx, hy with
  | 0, rfl, rfl => exact xW 0 (v916 _ _ k2') ((v2.trans (v3.trans v4)) _ _ j1) (by show 2 <= 8388608; decide) (fl ["mark", ts.getD 3 ""])
  | 1, rfl, rfl => exact xW 0 (v916 _ _ k3') ((v3.trans v4) _ _ j2) (by show 1 <= 8388608; decide) (fl ["stop"])
end
section
variable {P : Program} {w : World} {K : PySem.W.Frag} {mg : Str -> Option Value} {base : Heap}
def spLaw (K : PySem.W.Frag) : Sp := fun vs H Q _ => ∃ (a : Addr) (ns : List Int), vs = [.ref a] /\ SqL K H a (ns.map V.int) /\ ns.length <= 63 /\ ∀ H', Q (.bl true) H'
theorem scLaw : FnScope ["script", "cell"] ["script"] (defScope sLaw) := ⟨rfl, rfl, rfl, by decide +kernel, rfl, by decide +kernel, by decide +kernel⟩
theorem ok_law {e : Addr} {ed : FuncData} {n : Nat} (F : Fun K "law" "law" sLaw e ed) (cC : Cal P w K mg base 1 "_law_cells" ["script"] (spCells K)) (cS : Cal P w K mg base (n + 1) "_law_case" ["cell"] spCase) : FnOk P w K mg base CX0 (n + 2) e ed ["script"] (spLaw K) := by
  refine F.ok scLaw (fun vs H Q E h => ?_) (fun cdv A outer s H vs Q E hr h => ?_)
  . obtain ⟨a, ns, rfl, _⟩ := h
    rfl
  obtain ⟨a, ns, rfl, hS, h63, q⟩ := h
  have hr1 : Room 1 _ := hr.mono (by omega)
  refine ⟨_, (dQ (aX PassesOwn.never rfl (uX (nQ cC hr1 rfl (aQ (pv 0) fQ))) (rQ (i := 1) scLaw.nd rfl (Or.inl rfl)) (mQ (wZ (qU (pU (nQ cS hr rfl (aQ (pv 1) fQ)))) (mQ (tQ pK)) fZ)))
    (mQ (tQ pK))), ?_⟩
  refine ⟨_, rfl, a, ns, rfl, hS, h63, fun p ms hp _ _ => ?_⟩
  refine ⟨p, rfl, ⟨_, SqL.of jQ⟩, sJ (K := K) (a := p) (xs := ms.map V.int) (fun i σ H2 => (∃ c1 : Option V, σ = [some (.ref a), c1]) /\ H2 p = some (.lst (ms.map V.int)))
    ⟨⟨none, rfl⟩, jQ⟩ (fun i σ H2 _ ⟨_, e⟩ => SqL.of e) ?_ ?_⟩
  . rintro i y σ H2 hi ⟨⟨c1, rfl⟩, e2⟩
    obtain ⟨cell, rfl⟩ : ∃ z, y = V.int z := by
      obtain ⟨z, _, e⟩ := List.mem_map.mp (List.mem_of_getElem? hi)
      exact ⟨z, e.symm⟩
    refine ⟨_, rfl, cell, rfl, fun H3 s3 => ?_⟩
    refine ⟨_, rfl, iteF ?_⟩
    exact ⟨⟨_, rfl⟩, s3 _ _ e2⟩
  . rintro σ H2 _
    exact q H2
end
theorem ln1 {α : Type} {us : List α} (h : us.length = 1) : ∃ a0, us = [a0] := match us, h with | [a0], _ => ⟨a0, rfl⟩
theorem ln2 {α : Type} {us : List α} (h : us.length = 2) : ∃ a0 a1, us = [a0, a1] := match us, h with | [a0, a1], _ => ⟨a0, a1, rfl⟩
theorem ln3 {α : Type} {us : List α} (h : us.length = 3) : ∃ a0 a1 a2, us = [a0, a1, a2] := match us, h with | [a0, a1, a2], _ => ⟨a0, a1, a2, rfl⟩
theorem ln4 {α : Type} {us : List α} (h : us.length = 4) : ∃ a0 a1 a2 a3, us = [a0, a1, a2, a3] := match us, h with | [a0, a1, a2, a3], _ => ⟨a0, a1, a2, a3, rfl⟩
theorem all_mk {l : PySem.W.OpenLaw} {w : World} {K : PySem.W.Frag} {h : Heap} {mg : Str -> Option Value} {fa f1 f2 f3 f4 f5 f6 f7 f8 f9 f10 f11 f12 f13 f14 f15 f16 f17 f18 f19 f20 f21 f22 f23 f24 f25 f26 f27 f28 : Addr} (X : K.In h) (G : h.Ns mainGlobals mg) (hfa : mg "law" = some (.ref fa))
    {od1 an1 od2 an2 od3 an3 od4 an4 od5 an5 od6 an6 od7 an7 od8 an8 od9 an9 od10 an10 od11 an11 od12 an12 od13 an13 od14 an14 od15 an15 od16 an16 od17 an17 od18 an18 od19 an19 od20 an20 od21 an21 od22 an22 od23 an23 od24 an24 od25 an25 od26 an26 od27 an27 od28 an28 : Option Addr} {sl1 sl2 sl3 sl4 sl5 sl6 sl7 sl8 sl9 sl10 sl11 sl12 sl13 sl14 sl15 sl16 sl17 sl18 sl19 sl20 sl21 sl22 sl23 sl24 sl25 sl26 sl27 sl28 : Array (Option Value)} {oc1 kV1 dc1 pm1 cd1 ct1 oc2 kV2 dc2 pm2 cd2 ct2 oc3 kV3 dc3 pm3 cd3 ct3 oc4 kV4 dc4 pm4 cd4 ct4 oc5 kV5 dc5 pm5 cd5 ct5 oc6 kV6 dc6 pm6 cd6 ct6 oc7 kV7 dc7 pm7 cd7 ct7 oc8 kV8 dc8 pm8 cd8 ct8 oc9 kV9 dc9 pm9 cd9 ct9 oc10 kV10 dc10 pm10 cd10 ct10 oc11 kV11 dc11 pm11 cd11 ct11 oc12 kV12 dc12 pm12 cd12 ct12 oc13 kV13 dc13 pm13 cd13 ct13 oc14 kV14 dc14 pm14 cd14 ct14 oc15 kV15 dc15 pm15 cd15 ct15 oc16 kV16 dc16 pm16 cd16 ct16 oc17 kV17 dc17 pm17 cd17 ct17 oc18 kV18 dc18 pm18 cd18 ct18 oc19 kV19 dc19 pm19 cd19 ct19 oc20 kV20 dc20 pm20 cd20 ct20 oc21 kV21 dc21 pm21 cd21 ct21 oc22 kV22 dc22 pm22 cd22 ct22 oc23 kV23 dc23 pm23 cd23 ct23 oc24 kV24 dc24 pm24 cd24 ct24 oc25 kV25 dc25 pm25 cd25 ct25 oc26 kV26 dc26 pm26 cd26 ct26 oc27 kV27 dc27 pm27 cd27 ct27 oc28 kV28 dc28 pm28 cd28 ct28 : Value} {hk1 : Tok} {hk2 : Tok} {hk3 : Tok} {hk4 : Tok} {xc1 : Addr} {dr1 : Addr} {dn1 : Nat} {dt1_0 : Tok} {da1_0 : Addr} {do1_0 : Option Addr} {dm1_0 : Nat} {ds1_0 : Array (Option Value)} {dk1_0_0 dk1_0_1 dk1_0_2 : Tok} {dt1_1 : Tok} {da1_1 : Addr} {do1_1 : Option Addr} {dm1_1 : Nat} {ds1_1 : Array (Option Value)} {dk1_1_0 dk1_1_1 dk1_1_2 : Tok} {dt1_2 : Tok} {da1_2 : Addr} {do1_2 : Option Addr} {dm1_2 : Nat} {ds1_2 : Array (Option Value)} {dk1_2_0 dk1_2_1 dk1_2_2 : Tok} {dt1_3 : Tok} {da1_3 : Addr} {do1_3 : Option Addr} {dm1_3 : Nat} {ds1_3 : Array (Option Value)} {dk1_3_0 dk1_3_1 dk1_3_2 dk1_3_3 dk1_3_4 : Tok} {dt1_4 : Tok} {da1_4 : Addr} {do1_4 : Option Addr} {dm1_4 : Nat} {ds1_4 : Array (Option Value)} {dk1_4_0 dk1_4_1 dk1_4_2 dk1_4_3 : Tok} {dt1_5 : Tok} {da1_5 : Addr} {do1_5 : Option Addr} {dm1_5 : Nat} {ds1_5 : Array (Option Value)} {dk1_5_0 dk1_5_1 dk1_5_2 : Tok} {dt1_6 : Tok} {da1_6 : Addr} {do1_6 : Option Addr} {dm1_6 : Nat} {ds1_6 : Array (Option Value)} {dk1_6_0 dk1_6_1 dk1_6_2 : Tok} {dt1_7 : Tok} {da1_7 : Addr} {do1_7 : Option Addr} {dm1_7 : Nat} {ds1_7 : Array (Option Value)} {dk1_7_0 dk1_7_1 dk1_7_2 : Tok} {dt1_8 : Tok} {da1_8 : Addr} {do1_8 : Option Addr} {dm1_8 : Nat} {ds1_8 : Array (Option Value)} {dk1_8_0 dk1_8_1 dk1_8_2 : Tok} {dt1_9 : Tok} {da1_9 : Addr} {do1_9 : Option Addr} {dm1_9 : Nat} {ds1_9 : Array (Option Value)} {dk1_9_0 dk1_9_1 dk1_9_2 dk1_9_3 dk1_9_4 : Tok} {dt1_10 : Tok} {da1_10 : Addr} {do1_10 : Option Addr} {dm1_10 : Nat} {ds1_10 : Array (Option Value)} {dk1_10_0 dk1_10_1 dk1_10_2 dk1_10_3 dk1_10_4 : Tok} {dt1_11 : Tok} {da1_11 : Addr} {do1_11 : Option Addr} {dm1_11 : Nat} {ds1_11 : Array (Option Value)} {dk1_11_0 dk1_11_1 dk1_11_2 dk1_11_3 dk1_11_4 : Tok} {dt1_12 : Tok} {da1_12 : Addr} {do1_12 : Option Addr} {dm1_12 : Nat} {ds1_12 : Array (Option Value)} {dk1_12_0 dk1_12_1 dk1_12_2 dk1_12_3 dk1_12_4 : Tok} {A_SayError A_NoRow A_NoBox A_NoSaying A_NoForm : Addr}
    (a1 : PySem.W.nsIn K mainGlobals "with_number" = some (some (.ref f1))) (l1 : K.lookup f1 = some ⟨oc1, od1, .func (PySem.W.fnOf "with_number" "with_number" (defArgs sPWithNumber) (defBody sPWithNumber) (defScope sPWithNumber) .none kV1 dc1 pm1 an1 cd1 ct1), sl1⟩) (c1 : PySem.W.codeIn K cd1 "with_number" = true) (k1 : PySem.W.keepIn K (.ref f1) = true)
    (a2 : PySem.W.nsIn K mainGlobals "rests" = some (some (.ref f2))) (l2 : K.lookup f2 = some ⟨oc2, od2, .func (PySem.W.fnOf "rests" "rests" (defArgs sPRests) (defBody sPRests) (defScope sPRests) .none kV2 dc2 pm2 an2 cd2 ct2), sl2⟩) (c2 : PySem.W.codeIn K cd2 "rests" = true) (k2 : PySem.W.keepIn K (.ref f2) = true)
    (a3 : PySem.W.nsIn K mainGlobals "eithers" = some (some (.ref f3))) (l3 : K.lookup f3 = some ⟨oc3, od3, .func (PySem.W.fnOf "eithers" "eithers" (defArgs sPEithers) (defBody sPEithers) (defScope sPEithers) .none kV3 dc3 pm3 an3 cd3 ct3), sl3⟩) (c3 : PySem.W.codeIn K cd3 "eithers" = true) (k3 : PySem.W.keepIn K (.ref f3) = true)
    (a4 : PySem.W.nsIn K mainGlobals "rising_pairs" = some (some (.ref f4))) (l4 : K.lookup f4 = some ⟨oc4, od4, .func (PySem.W.fnOf "rising_pairs" "rising_pairs" (defArgs sPRisingPairs) (defBody sPRisingPairs) (defScope sPRisingPairs) .none kV4 dc4 pm4 an4 cd4 ct4), sl4⟩) (c4 : PySem.W.codeIn K cd4 "rising_pairs" = true) (k4 : PySem.W.keepIn K (.ref f4) = true)
    (a5 : PySem.W.nsIn K mainGlobals "unlike_pairs" = some (some (.ref f5))) (l5 : K.lookup f5 = some ⟨oc5, od5, .func (PySem.W.fnOf "unlike_pairs" "unlike_pairs" (defArgs sPUnlikePairs) (defBody sPUnlikePairs) (defScope sPUnlikePairs) .none kV5 dc5 pm5 an5 cd5 ct5), sl5⟩) (c5 : PySem.W.codeIn K cd5 "unlike_pairs" = true) (k5 : PySem.W.keepIn K (.ref f5) = true)
    (a6 : PySem.W.nsIn K mainGlobals "with_pair" = some (some (.ref f6))) (l6 : K.lookup f6 = some ⟨oc6, od6, .func (PySem.W.fnOf "with_pair" "with_pair" (defArgs sPWithPair) (defBody sPWithPair) (defScope sPWithPair) .none kV6 dc6 pm6 an6 cd6 ct6), sl6⟩) (c6 : PySem.W.codeIn K cd6 "with_pair" = true) (k6 : PySem.W.keepIn K (.ref f6) = true)
    (a7 : PySem.W.nsIn K mainGlobals "with_pair_and_number" = some (some (.ref f7))) (l7 : K.lookup f7 = some ⟨oc7, od7, .func (PySem.W.fnOf "with_pair_and_number" "with_pair_and_number" (defArgs sPWithPairAndNumber) (defBody sPWithPairAndNumber) (defScope sPWithPairAndNumber) .none kV7 dc7 pm7 an7 cd7 ct7), sl7⟩) (c7 : PySem.W.codeIn K cd7 "with_pair_and_number" = true) (k7 : PySem.W.keepIn K (.ref f7) = true)
    (a8 : PySem.W.nsIn K mainGlobals "gaps" = some (some (.ref f8))) (l8 : K.lookup f8 = some ⟨oc8, od8, .func (PySem.W.fnOf "gaps" "gaps" (defArgs sPGaps) (defBody sPGaps) (defScope sPGaps) .none kV8 dc8 pm8 an8 cd8 ct8), sl8⟩) (c8 : PySem.W.codeIn K cd8 "gaps" = true) (k8 : PySem.W.keepIn K (.ref f8) = true)
    (a9 : PySem.W.nsIn K mainGlobals "with_three" = some (some (.ref f9))) (l9 : K.lookup f9 = some ⟨oc9, od9, .func (PySem.W.fnOf "with_three" "with_three" (defArgs sPWithThree) (defBody sPWithThree) (defScope sPWithThree) .none kV9 dc9 pm9 an9 cd9 ct9), sl9⟩) (c9 : PySem.W.codeIn K cd9 "with_three" = true) (k9 : PySem.W.keepIn K (.ref f9) = true)
    (a10 : PySem.W.nsIn K mainGlobals "sayings" = some (some (.ref f10))) (l10 : K.lookup f10 = some ⟨oc10, od10, .func (PySem.W.fnOf "sayings" "sayings" (defArgs sPSayings) (defBody sPSayings) (defScope sPSayings) .none kV10 dc10 pm10 an10 cd10 ct10), sl10⟩) (c10 : PySem.W.codeIn K cd10 "sayings" = true) (k10 : PySem.W.keepIn K (.ref f10) = true)
    (a11 : PySem.W.nsIn K mainGlobals "shown_saying" = some (some (.ref f11))) (l11 : K.lookup f11 = some ⟨oc11, od11, .func (PySem.W.fnOf "shown_saying" "shown_saying" (defArgs sPShownSaying) (defBody sPShownSaying) (defScope sPShownSaying) .none kV11 dc11 pm11 an11 cd11 ct11), sl11⟩) (c11 : PySem.W.codeIn K cd11 "shown_saying" = true) (k11 : PySem.W.keepIn K (.ref f11) = true)
    (a12 : PySem.W.nsIn K mainGlobals "read_saying" = some (some (.ref f12))) (l12 : K.lookup f12 = some ⟨oc12, od12, .func (PySem.W.fnOf "read_saying" "read_saying" (defArgs sPReadSaying) (defBody sPReadSaying) (defScope sPReadSaying) .none kV12 dc12 pm12 an12 cd12 ct12), sl12⟩) (c12 : PySem.W.codeIn K cd12 "read_saying" = true) (k12 : PySem.W.keepIn K (.ref f12) = true)
    (a13 : PySem.W.nsIn K mainGlobals "_law_next" = some (some (.ref f13))) (l13 : K.lookup f13 = some ⟨oc13, od13, .func (PySem.W.fnOf "_law_next" "_law_next" (defArgs sNext) (defBody sNext) (defScope sNext) .none kV13 dc13 pm13 an13 cd13 ct13), sl13⟩) (c13 : PySem.W.codeIn K cd13 "_law_next" = true) (k13 : PySem.W.keepIn K (.ref f13) = true)
    (a14 : PySem.W.nsIn K mainGlobals "_law_cells" = some (some (.ref f14))) (l14 : K.lookup f14 = some ⟨oc14, od14, .func (PySem.W.fnOf "_law_cells" "_law_cells" (defArgs sCells) (defBody sCells) (defScope sCells) .none kV14 dc14 pm14 an14 cd14 ct14), sl14⟩) (c14 : PySem.W.codeIn K cd14 "_law_cells" = true) (k14 : PySem.W.keepIn K (.ref f14) = true)
    (a15 : PySem.W.nsIn K mainGlobals "_law_boxes" = some (some (.ref f15))) (l15 : K.lookup f15 = some ⟨oc15, od15, .func (PySem.W.fnOf "_law_boxes" "_law_boxes" (defArgs sBoxes) (defBody sBoxes) (defScope sBoxes) .none kV15 dc15 pm15 an15 cd15 ct15), sl15⟩) (c15 : PySem.W.codeIn K cd15 "_law_boxes" = true) (k15 : PySem.W.keepIn K (.ref f15) = true)
    (a16 : PySem.W.nsIn K mainGlobals "_law_other" = some (some (.ref f16))) (l16 : K.lookup f16 = some ⟨oc16, od16, .func (PySem.W.fnOf "_law_other" "_law_other" (defArgs sOther) (defBody sOther) (defScope sOther) .none kV16 dc16 pm16 an16 cd16 ct16), sl16⟩) (c16 : PySem.W.codeIn K cd16 "_law_other" = true) (k16 : PySem.W.keepIn K (.ref f16) = true)
    (a17 : PySem.W.nsIn K mainGlobals "_law_letters" = some (some (.ref f17))) (l17 : K.lookup f17 = some ⟨oc17, od17, .func (PySem.W.fnOf "_law_letters" "_law_letters" (defArgs sLetters) (defBody sLetters) (defScope sLetters) .none kV17 dc17 pm17 an17 cd17 ct17), sl17⟩) (c17 : PySem.W.codeIn K cd17 "_law_letters" = true) (k17 : PySem.W.keepIn K (.ref f17) = true)
    (a18 : PySem.W.nsIn K mainGlobals "_law_names" = some (some (.ref f18))) (l18 : K.lookup f18 = some ⟨oc18, od18, .func (PySem.W.fnOf "_law_names" "_law_names" (defArgs sNames) (defBody sNames) (defScope sNames) .none kV18 dc18 pm18 an18 cd18 ct18), sl18⟩) (c18 : PySem.W.codeIn K cd18 "_law_names" = true) (k18 : PySem.W.keepIn K (.ref f18) = true)
    (a19 : PySem.W.nsIn K mainGlobals "_law_numbers" = some (some (.ref f19))) (l19 : K.lookup f19 = some ⟨oc19, od19, .func (PySem.W.fnOf "_law_numbers" "_law_numbers" (defArgs sNumbers) (defBody sNumbers) (defScope sNumbers) .none kV19 dc19 pm19 an19 cd19 ct19), sl19⟩) (c19 : PySem.W.codeIn K cd19 "_law_numbers" = true) (k19 : PySem.W.keepIn K (.ref f19) = true)
    (a20 : PySem.W.nsIn K mainGlobals "_law_words" = some (some (.ref f20))) (l20 : K.lookup f20 = some ⟨oc20, od20, .func (PySem.W.fnOf "_law_words" "_law_words" (defArgs sWords) (defBody sWords) (defScope sWords) .none kV20 dc20 pm20 an20 cd20 ct20), sl20⟩) (c20 : PySem.W.codeIn K cd20 "_law_words" = true) (k20 : PySem.W.keepIn K (.ref f20) = true)
    (a21 : PySem.W.nsIn K mainGlobals "_law_figures" = some (some (.ref f21))) (l21 : K.lookup f21 = some ⟨oc21, od21, .func (PySem.W.fnOf "_law_figures" "_law_figures" (defArgs sFigures) (defBody sFigures) (defScope sFigures) .none kV21 dc21 pm21 an21 cd21 ct21), sl21⟩) (c21 : PySem.W.codeIn K cd21 "_law_figures" = true) (k21 : PySem.W.keepIn K (.ref f21) = true)
    (a22 : PySem.W.nsIn K mainGlobals "_law_two" = some (some (.ref f22))) (l22 : K.lookup f22 = some ⟨oc22, od22, .func (PySem.W.fnOf "_law_two" "_law_two" (defArgs sTwo) (defBody sTwo) (defScope sTwo) .none kV22 dc22 pm22 an22 cd22 ct22), sl22⟩) (c22 : PySem.W.codeIn K cd22 "_law_two" = true) (k22 : PySem.W.keepIn K (.ref f22) = true)
    (a23 : PySem.W.nsIn K mainGlobals "_law_three" = some (some (.ref f23))) (l23 : K.lookup f23 = some ⟨oc23, od23, .func (PySem.W.fnOf "_law_three" "_law_three" (defArgs sThree) (defBody sThree) (defScope sThree) .none kV23 dc23 pm23 an23 cd23 ct23), sl23⟩) (c23 : PySem.W.codeIn K cd23 "_law_three" = true) (k23 : PySem.W.keepIn K (.ref f23) = true)
    (a24 : PySem.W.nsIn K mainGlobals "_law_strange" = some (some (.ref f24))) (l24 : K.lookup f24 = some ⟨oc24, od24, .func (PySem.W.fnOf "_law_strange" "_law_strange" (defArgs sStrange) (defBody sStrange) (defScope sStrange) .none kV24 dc24 pm24 an24 cd24 ct24), sl24⟩) (c24 : PySem.W.codeIn K cd24 "_law_strange" = true) (k24 : PySem.W.keepIn K (.ref f24) = true)
    (a25 : PySem.W.nsIn K mainGlobals "_law_bad" = some (some (.ref f25))) (l25 : K.lookup f25 = some ⟨oc25, od25, .func (PySem.W.fnOf "_law_bad" "_law_bad" (defArgs sBad) (defBody sBad) (defScope sBad) .none kV25 dc25 pm25 an25 cd25 ct25), sl25⟩) (c25 : PySem.W.codeIn K cd25 "_law_bad" = true) (k25 : PySem.W.keepIn K (.ref f25) = true)
    (a26 : PySem.W.nsIn K mainGlobals "_law_refused" = some (some (.ref f26))) (l26 : K.lookup f26 = some ⟨oc26, od26, .func (PySem.W.fnOf "_law_refused" "_law_refused" (defArgs sRefused) (defBody sRefused) (defScope sRefused) .none kV26 dc26 pm26 an26 cd26 ct26), sl26⟩) (c26 : PySem.W.codeIn K cd26 "_law_refused" = true) (k26 : PySem.W.keepIn K (.ref f26) = true)
    (a27 : PySem.W.nsIn K mainGlobals "_law_case" = some (some (.ref f27))) (l27 : K.lookup f27 = some ⟨oc27, od27, .func (PySem.W.fnOf "_law_case" "_law_case" (defArgs sCase) (defBody sCase) (defScope sCase) .none kV27 dc27 pm27 an27 cd27 ct27), sl27⟩) (c27 : PySem.W.codeIn K cd27 "_law_case" = true) (k27 : PySem.W.keepIn K (.ref f27) = true)
    (a28 : PySem.W.nsIn K mainGlobals "law" = some (some (.ref f28))) (l28 : K.lookup f28 = some ⟨oc28, od28, .func (PySem.W.fnOf "law" "law" (defArgs sLaw) (defBody sLaw) (defScope sLaw) .none kV28 dc28 pm28 an28 cd28 ct28), sl28⟩) (c28 : PySem.W.codeIn K cd28 "law" = true) (k28 : PySem.W.keepIn K (.ref f28) = true)
    (i1 : PySem.W.nsIn K mainGlobals "LEAST_DIVISOR" = some (some (.int 2 hk1)))
    (i2 : PySem.W.nsIn K mainGlobals "MOST_DIVISOR" = some (some (.int 6 hk2)))
    (i3 : PySem.W.nsIn K mainGlobals "WIDEST_GAP" = some (some (.int 20 hk3)))
    (i4 : PySem.W.nsIn K mainGlobals "WIDEST_SUM" = some (some (.int 40 hk4)))
    (d1 : PySem.W.nsIn K mainGlobals "WRITTEN" = some (some (.ref dr1))) (dl1 : K.lookup dr1 = some ⟨.type "dict", none, .dict #[⟨PyData.keyHash w.params "is", .str "is" dt1_0, .ref da1_0⟩, ⟨PyData.keyHash w.params "from", .str "from" dt1_1, .ref da1_1⟩, ⟨PyData.keyHash w.params "to", .str "to" dt1_2, .ref da1_2⟩, ⟨PyData.keyHash w.params "rest", .str "rest" dt1_3, .ref da1_3⟩, ⟨PyData.keyHash w.params "either", .str "either" dt1_4, .ref da1_4⟩, ⟨PyData.keyHash w.params "never", .str "never" dt1_5, .ref da1_5⟩, ⟨PyData.keyHash w.params "same", .str "same" dt1_6, .ref da1_6⟩, ⟨PyData.keyHash w.params "below", .str "below" dt1_7, .ref da1_7⟩, ⟨PyData.keyHash w.params "most", .str "most" dt1_8, .ref da1_8⟩, ⟨PyData.keyHash w.params "gap", .str "gap" dt1_9, .ref da1_9⟩, ⟨PyData.keyHash w.params "sum", .str "sum" dt1_10, .ref da1_10⟩, ⟨PyData.keyHash w.params "adds", .str "adds" dt1_11, .ref da1_11⟩, ⟨PyData.keyHash w.params "times", .str "times" dt1_12, .ref da1_12⟩] dn1, #[]⟩)
    (e1_0 : K.lookup da1_0 = some ⟨.type "tuple", do1_0, .seq #[.str "BOX" dk1_0_0, .str "=" dk1_0_1, .str "NUMBER" dk1_0_2] dm1_0, ds1_0⟩)
    (e1_1 : K.lookup da1_1 = some ⟨.type "tuple", do1_1, .seq #[.str "BOX" dk1_1_0, .str ">=" dk1_1_1, .str "NUMBER" dk1_1_2] dm1_1, ds1_1⟩)
    (e1_2 : K.lookup da1_2 = some ⟨.type "tuple", do1_2, .seq #[.str "BOX" dk1_2_0, .str "<=" dk1_2_1, .str "NUMBER" dk1_2_2] dm1_2, ds1_2⟩)
    (e1_3 : K.lookup da1_3 = some ⟨.type "tuple", do1_3, .seq #[.str "BOX" dk1_3_0, .str "rest" dk1_3_1, .str "NUMBER" dk1_3_2, .str "=" dk1_3_3, .str "NUMBER" dk1_3_4] dm1_3, ds1_3⟩)
    (e1_4 : K.lookup da1_4 = some ⟨.type "tuple", do1_4, .seq #[.str "BOX" dk1_4_0, .str "in" dk1_4_1, .str "NUMBER" dk1_4_2, .str "NUMBER" dk1_4_3] dm1_4, ds1_4⟩)
    (e1_5 : K.lookup da1_5 = some ⟨.type "tuple", do1_5, .seq #[.str "BOX" dk1_5_0, .str "not" dk1_5_1, .str "NUMBER" dk1_5_2] dm1_5, ds1_5⟩)
    (e1_6 : K.lookup da1_6 = some ⟨.type "tuple", do1_6, .seq #[.str "BOX" dk1_6_0, .str "=" dk1_6_1, .str "BOX" dk1_6_2] dm1_6, ds1_6⟩)
    (e1_7 : K.lookup da1_7 = some ⟨.type "tuple", do1_7, .seq #[.str "BOX" dk1_7_0, .str "<" dk1_7_1, .str "BOX" dk1_7_2] dm1_7, ds1_7⟩)
    (e1_8 : K.lookup da1_8 = some ⟨.type "tuple", do1_8, .seq #[.str "BOX" dk1_8_0, .str "<=" dk1_8_1, .str "BOX" dk1_8_2] dm1_8, ds1_8⟩)
    (e1_9 : K.lookup da1_9 = some ⟨.type "tuple", do1_9, .seq #[.str "BOX" dk1_9_0, .str "-" dk1_9_1, .str "BOX" dk1_9_2, .str "=" dk1_9_3, .str "NUMBER" dk1_9_4] dm1_9, ds1_9⟩)
    (e1_10 : K.lookup da1_10 = some ⟨.type "tuple", do1_10, .seq #[.str "BOX" dk1_10_0, .str "+" dk1_10_1, .str "BOX" dk1_10_2, .str "=" dk1_10_3, .str "NUMBER" dk1_10_4] dm1_10, ds1_10⟩)
    (e1_11 : K.lookup da1_11 = some ⟨.type "tuple", do1_11, .seq #[.str "BOX" dk1_11_0, .str "+" dk1_11_1, .str "BOX" dk1_11_2, .str "=" dk1_11_3, .str "BOX" dk1_11_4] dm1_11, ds1_11⟩)
    (e1_12 : K.lookup da1_12 = some ⟨.type "tuple", do1_12, .seq #[.str "BOX" dk1_12_0, .str "*" dk1_12_1, .str "BOX" dk1_12_2, .str "=" dk1_12_3, .str "BOX" dk1_12_4] dm1_12, ds1_12⟩)
    (x1 : PySem.W.nsIn K mainGlobals "NoSaying" = some (some (.ref xc1))) (y1 : PySem.W.excIn K xc1 [.type "ValueError", .type "Exception", .type "BaseException", .type "object"] "ValueError.__new__" = true)
    (nx_SayError : PySem.W.nsIn K mainGlobals "SayError" = some (some (.ref A_SayError)))
    (tx_SayError : PySem.W.typeIn K (.ref A_SayError) = some (.type "type"))
    (cx_SayError : PySem.W.isClsIn K A_SayError = true)
    (nx_NoRow : PySem.W.nsIn K mainGlobals "NoRow" = some (some (.ref A_NoRow)))
    (tx_NoRow : PySem.W.typeIn K (.ref A_NoRow) = some (.type "type"))
    (cx_NoRow : PySem.W.isClsIn K A_NoRow = true)
    (nx_NoBox : PySem.W.nsIn K mainGlobals "NoBox" = some (some (.ref A_NoBox)))
    (tx_NoBox : PySem.W.typeIn K (.ref A_NoBox) = some (.type "type"))
    (cx_NoBox : PySem.W.isClsIn K A_NoBox = true)
    (nx_NoSaying : PySem.W.nsIn K mainGlobals "NoSaying" = some (some (.ref A_NoSaying)))
    (tx_NoSaying : PySem.W.typeIn K (.ref A_NoSaying) = some (.type "type"))
    (cx_NoSaying : PySem.W.isClsIn K A_NoSaying = true)
    (nx_NoForm : PySem.W.nsIn K mainGlobals "NoForm" = some (some (.ref A_NoForm)))
    (tx_NoForm : PySem.W.typeIn K (.ref A_NoForm) = some (.type "type"))
    (cx_NoForm : PySem.W.isClsIn K A_NoForm = true)
    (gt_ : PySem.W.specialIn K (.builtin "object.__class__") "__get__" = some (some (.builtin "getset_descriptor.__get__")))
    (tk_ : PySem.W.takesIn K (.builtin "object.__class__") = some true)
    (ga_NoSaying : PySem.W.findIn K (.ref A_NoSaying) "__getattribute__" = some (some (.builtin "BaseException.__getattribute__")))
    (gh_NoSaying : PySem.W.findIn K (.ref A_NoSaying) "__getattr__" = some none)
    (at_NoSaying : PySem.W.findIn K (.ref A_NoSaying) "__class__" = some (some (.builtin "object.__class__")))
    (mr_NoSaying : PySem.W.mroIn K A_NoSaying (.type "object") = some true)
    (mb_NoSaying : PySem.W.mroIn K A_NoSaying (.type "BaseException") = some true)
    (ve_NoSaying : PySem.W.subIn K (.ref A_NoSaying) (.type "ValueError") = some true)
    (sb_NoSaying_SayError : PySem.W.subIn K (.ref A_NoSaying) (.ref A_SayError) = some true)
    (ne_NoSaying_SayError : (Value.ref A_NoSaying == Value.ref A_SayError) = false)
    (sb_NoSaying_NoRow : PySem.W.subIn K (.ref A_NoSaying) (.ref A_NoRow) = some false)
    (ne_NoSaying_NoRow : (Value.ref A_NoSaying == Value.ref A_NoRow) = false)
    (sb_NoSaying_NoBox : PySem.W.subIn K (.ref A_NoSaying) (.ref A_NoBox) = some false)
    (ne_NoSaying_NoBox : (Value.ref A_NoSaying == Value.ref A_NoBox) = false)
    (sb_NoSaying_NoForm : PySem.W.subIn K (.ref A_NoSaying) (.ref A_NoForm) = some false)
    (ne_NoSaying_NoForm : (Value.ref A_NoSaying == Value.ref A_NoForm) = false)
    (sh_NoSaying_NoSaying : PySem.W.subIn K (.ref A_NoSaying) (.ref A_NoSaying) = some true)
    (be_NoSaying : PySem.W.subIn K (.ref A_NoSaying) (.type "BaseException") = some true)
    (z1 : PySem.W.nsIn K mainGlobals "ValueError" = some none) (z2 : PySem.W.nsIn K mainGlobals "abs" = some none) (z3 : PySem.W.nsIn K mainGlobals "enumerate" = some none) (z4 : PySem.W.nsIn K mainGlobals "isinstance" = some none) (z5 : PySem.W.nsIn K mainGlobals "len" = some none) (z6 : PySem.W.nsIn K mainGlobals "list" = some none) (z7 : PySem.W.nsIn K mainGlobals "min" = some none) (z8 : PySem.W.nsIn K mainGlobals "range" = some none) (z9 : PySem.W.nsIn K mainGlobals "str" = some none) (z10 : PySem.W.nsIn K mainGlobals "tuple" = some none) :
    ∃ fd : FuncData, (∀ (s : Shared) (v : Value), BindsTo s fd ⟨[v], []⟩ [("script", v)]) /\ ∀ base : Heap, K.In base -> base.Ns mainGlobals mg -> FnOk l.prog w K mg base CX0 8 fa fd ["script"] (spLaw K) := by
  have e := hfa.symm.trans (PySem.W.mg_of X G a28)
  cases e
  have h_with_number : Has K mg "with_number" sPWithNumber ["form", "boxes", "above", "below"] := Has.mk X G a1 l1 c1 k1 fun _ _ _ _ _ _ us hl => by obtain ⟨_, _, _, _, rfl⟩ := ln4 hl; rfl
  have h_rests : Has K mg "rests" sPRests ["boxes"] := Has.mk X G a2 l2 c2 k2 fun _ _ _ _ _ _ us hl => by obtain ⟨_, rfl⟩ := ln1 hl; rfl
  have h_eithers : Has K mg "eithers" sPEithers ["boxes"] := Has.mk X G a3 l3 c3 k3 fun _ _ _ _ _ _ us hl => by obtain ⟨_, rfl⟩ := ln1 hl; rfl
  have h_rising_pairs : Has K mg "rising_pairs" sPRisingPairs ["boxes"] := Has.mk X G a4 l4 c4 k4 fun _ _ _ _ _ _ us hl => by obtain ⟨_, rfl⟩ := ln1 hl; rfl
  have h_unlike_pairs : Has K mg "unlike_pairs" sPUnlikePairs ["boxes"] := Has.mk X G a5 l5 c5 k5 fun _ _ _ _ _ _ us hl => by obtain ⟨_, rfl⟩ := ln1 hl; rfl
  have h_with_pair : Has K mg "with_pair" sPWithPair ["form", "pairs"] := Has.mk X G a6 l6 c6 k6 fun _ _ _ _ _ _ us hl => by obtain ⟨_, _, rfl⟩ := ln2 hl; rfl
  have h_with_pair_and_number : Has K mg "with_pair_and_number" sPWithPairAndNumber ["form", "boxes", "widest"] := Has.mk X G a7 l7 c7 k7 fun _ _ _ _ _ _ us hl => by obtain ⟨_, _, _, rfl⟩ := ln3 hl; rfl
  have h_gaps : Has K mg "gaps" sPGaps ["boxes"] := Has.mk X G a8 l8 c8 k8 fun _ _ _ _ _ _ us hl => by obtain ⟨_, rfl⟩ := ln1 hl; rfl
  have h_with_three : Has K mg "with_three" sPWithThree ["form", "boxes"] := Has.mk X G a9 l9 c9 k9 fun _ _ _ _ _ _ us hl => by obtain ⟨_, _, rfl⟩ := ln2 hl; rfl
  have h_sayings : Has K mg "sayings" sPSayings ["program"] := Has.mk X G a10 l10 c10 k10 fun _ _ _ _ _ _ us hl => by obtain ⟨_, rfl⟩ := ln1 hl; rfl
  have h_shown_saying : Has K mg "shown_saying" sPShownSaying ["program", "saying"] := Has.mk X G a11 l11 c11 k11 fun _ _ _ _ _ _ us hl => by obtain ⟨_, _, rfl⟩ := ln2 hl; rfl
  have h_read_saying : Has K mg "read_saying" sPReadSaying ["program", "text"] := Has.mk X G a12 l12 c12 k12 fun _ _ _ _ _ _ us hl => by obtain ⟨_, _, rfl⟩ := ln2 hl; rfl
  have h__law_next : Has K mg "_law_next" sNext ["pot", "many"] := Has.mk X G a13 l13 c13 k13 fun _ _ _ _ _ _ us hl => by obtain ⟨_, _, rfl⟩ := ln2 hl; rfl
  have h__law_cells : Has K mg "_law_cells" sCells ["script"] := Has.mk X G a14 l14 c14 k14 fun _ _ _ _ _ _ us hl => by obtain ⟨_, rfl⟩ := ln1 hl; rfl
  have h__law_boxes : Has K mg "_law_boxes" sBoxes ["pot", "most", "names"] := Has.mk X G a15 l15 c15 k15 fun _ _ _ _ _ _ us hl => by obtain ⟨_, _, _, rfl⟩ := ln3 hl; rfl
  have h__law_other : Has K mg "_law_other" sOther ["stem", "taken"] := Has.mk X G a16 l16 c16 k16 fun _ _ _ _ _ _ us hl => by obtain ⟨_, _, rfl⟩ := ln2 hl; rfl
  have h__law_letters : Has K mg "_law_letters" sLetters ["pot", "many"] := Has.mk X G a17 l17 c17 k17 fun _ _ _ _ _ _ us hl => by obtain ⟨_, _, rfl⟩ := ln2 hl; rfl
  have h__law_names : Has K mg "_law_names" sNames ["pot"] := Has.mk X G a18 l18 c18 k18 fun _ _ _ _ _ _ us hl => by obtain ⟨_, rfl⟩ := ln1 hl; rfl
  have h__law_numbers : Has K mg "_law_numbers" sNumbers ["pot", "low", "high"] := Has.mk X G a19 l19 c19 k19 fun _ _ _ _ _ _ us hl => by obtain ⟨_, _, _, rfl⟩ := ln3 hl; rfl
  have h__law_words : Has K mg "_law_words" sWords ["pot", "one", "low", "high"] := Has.mk X G a20 l20 c20 k20 fun _ _ _ _ _ _ us hl => by obtain ⟨_, _, _, _, rfl⟩ := ln4 hl; rfl
  have h__law_figures : Has K mg "_law_figures" sFigures ["pot", "one", "low", "high"] := Has.mk X G a21 l21 c21 k21 fun _ _ _ _ _ _ us hl => by obtain ⟨_, _, _, _, rfl⟩ := ln4 hl; rfl
  have h__law_two : Has K mg "_law_two" sTwo ["pot", "a", "b"] := Has.mk X G a22 l22 c22 k22 fun _ _ _ _ _ _ us hl => by obtain ⟨_, _, _, rfl⟩ := ln3 hl; rfl
  have h__law_three : Has K mg "_law_three" sThree ["pot", "a", "b", "c"] := Has.mk X G a23 l23 c23 k23 fun _ _ _ _ _ _ us hl => by obtain ⟨_, _, _, _, rfl⟩ := ln4 hl; rfl
  have h__law_strange : Has K mg "_law_strange" sStrange ["pot", "names"] := Has.mk X G a24 l24 c24 k24 fun _ _ _ _ _ _ us hl => by obtain ⟨_, _, rfl⟩ := ln2 hl; rfl
  have h__law_bad : Has K mg "_law_bad" sBad ["pot", "boxes"] := Has.mk X G a25 l25 c25 k25 fun _ _ _ _ _ _ us hl => by obtain ⟨_, _, rfl⟩ := ln2 hl; rfl
  have h__law_refused : Has K mg "_law_refused" sRefused ["program", "line"] := Has.mk X G a26 l26 c26 k26 fun _ _ _ _ _ _ us hl => by obtain ⟨_, _, rfl⟩ := ln2 hl; rfl
  have h__law_case : Has K mg "_law_case" sCase ["cell"] := Has.mk X G a27 l27 c27 k27 fun _ _ _ _ _ _ us hl => by obtain ⟨_, rfl⟩ := ln1 hl; rfl
  have F := wU (st := sLaw) l28 c28 k28
  have B : Blt mg := ⟨PySem.W.mg_none_of X G z1, PySem.W.mg_none_of X G z2, PySem.W.mg_none_of X G z3, PySem.W.mg_none_of X G z4, PySem.W.mg_none_of X G z5, PySem.W.mg_none_of X G z6, PySem.W.mg_none_of X G z7, PySem.W.mg_none_of X G z8, PySem.W.mg_none_of X G z9, PySem.W.mg_none_of X G z10⟩
  have ex_NoSaying : Exc K mg "NoSaying" xc1 [.type "ValueError", .type "Exception", .type "BaseException", .type "object"] "ValueError.__new__" := ⟨PySem.W.mg_of X G x1, y1⟩
  have mg_SayError := PySem.W.mg_of X G nx_SayError
  have mg_NoRow := PySem.W.mg_of X G nx_NoRow
  have mg_NoBox := PySem.W.mg_of X G nx_NoBox
  have mg_NoSaying := PySem.W.mg_of X G nx_NoSaying
  have mg_NoForm := PySem.W.mg_of X G nx_NoForm
  have eqx_NoSaying : xc1 = A_NoSaying := Value.ref.inj (Option.some.inj (Option.some.inj (x1.symm.trans nx_NoSaying)))
  subst eqx_NoSaying
  have xc_NoSaying : XCls K _ := ⟨ga_NoSaying, gh_NoSaying, at_NoSaying, gt_, tk_, mr_NoSaying, mb_NoSaying, cx_NoSaying⟩
  have kv_NoSaying := kit_ve ve_NoSaying
  have kt_NoSaying_SayError := eW tx_SayError cx_SayError sb_NoSaying_SayError ne_NoSaying_SayError
  have kt_NoSaying_NoRow := eW tx_NoRow cx_NoRow sb_NoSaying_NoRow ne_NoSaying_NoRow
  have kt_NoSaying_NoBox := eW tx_NoBox cx_NoBox sb_NoSaying_NoBox ne_NoSaying_NoBox
  have kt_NoSaying_NoForm := eW tx_NoForm cx_NoForm sb_NoSaying_NoForm ne_NoSaying_NoForm
  have em_NoSaying_NoSaying := exm_own be_NoSaying tx_NoSaying cx_NoSaying sh_NoSaying_NoSaying
  have gd : Gdb w K mg := ⟨gdt_of (kvs := [("is", Value.ref da1_0), ("from", Value.ref da1_1), ("to", Value.ref da1_2), ("rest", Value.ref da1_3), ("either", Value.ref da1_4), ("never", Value.ref da1_5), ("same", Value.ref da1_6), ("below", Value.ref da1_7), ("most", Value.ref da1_8), ("gap", Value.ref da1_9), ("sum", Value.ref da1_10), ("adds", Value.ref da1_11), ("times", Value.ref da1_12)]) ⟨dr1, _, _, PySem.W.mg_of X G d1, dl1, (show (["is", "from", "to", "rest", "either", "never", "same", "below", "most", "gap", "sum", "adds", "times"] : List Str).Nodup by decide +kernel), Paired.cons ⟨_, rfl⟩ (Paired.cons ⟨_, rfl⟩ (Paired.cons ⟨_, rfl⟩ (Paired.cons ⟨_, rfl⟩ (Paired.cons ⟨_, rfl⟩ (Paired.cons ⟨_, rfl⟩ (Paired.cons ⟨_, rfl⟩ (Paired.cons ⟨_, rfl⟩ (Paired.cons ⟨_, rfl⟩ (Paired.cons ⟨_, rfl⟩ (Paired.cons ⟨_, rfl⟩ (Paired.cons ⟨_, rfl⟩ (Paired.cons ⟨_, rfl⟩ (Paired.nil)))))))))))))⟩ (Paired.cons ⟨rfl, da1_0, rfl, fun H => .inr ⟨_, _, _, e1_0, rfl, rfl, (by show 3 <= sizeLine; decide), Paired.cons ⟨_, rfl⟩ (Paired.cons ⟨_, rfl⟩ (Paired.cons ⟨_, rfl⟩ (Paired.nil)))⟩⟩ (Paired.cons ⟨rfl, da1_1, rfl, fun H => .inr ⟨_, _, _, e1_1, rfl, rfl, (by show 3 <= sizeLine; decide), Paired.cons ⟨_, rfl⟩ (Paired.cons ⟨_, rfl⟩ (Paired.cons ⟨_, rfl⟩ (Paired.nil)))⟩⟩ (Paired.cons ⟨rfl, da1_2, rfl, fun H => .inr ⟨_, _, _, e1_2, rfl, rfl, (by show 3 <= sizeLine; decide), Paired.cons ⟨_, rfl⟩ (Paired.cons ⟨_, rfl⟩ (Paired.cons ⟨_, rfl⟩ (Paired.nil)))⟩⟩ (Paired.cons ⟨rfl, da1_3, rfl, fun H => .inr ⟨_, _, _, e1_3, rfl, rfl, (by show 5 <= sizeLine; decide), Paired.cons ⟨_, rfl⟩ (Paired.cons ⟨_, rfl⟩ (Paired.cons ⟨_, rfl⟩ (Paired.cons ⟨_, rfl⟩ (Paired.cons ⟨_, rfl⟩ (Paired.nil)))))⟩⟩ (Paired.cons ⟨rfl, da1_4, rfl, fun H => .inr ⟨_, _, _, e1_4, rfl, rfl, (by show 4 <= sizeLine; decide), Paired.cons ⟨_, rfl⟩ (Paired.cons ⟨_, rfl⟩ (Paired.cons ⟨_, rfl⟩ (Paired.cons ⟨_, rfl⟩ (Paired.nil))))⟩⟩ (Paired.cons ⟨rfl, da1_5, rfl, fun H => .inr ⟨_, _, _, e1_5, rfl, rfl, (by show 3 <= sizeLine; decide), Paired.cons ⟨_, rfl⟩ (Paired.cons ⟨_, rfl⟩ (Paired.cons ⟨_, rfl⟩ (Paired.nil)))⟩⟩ (Paired.cons ⟨rfl, da1_6, rfl, fun H => .inr ⟨_, _, _, e1_6, rfl, rfl, (by show 3 <= sizeLine; decide), Paired.cons ⟨_, rfl⟩ (Paired.cons ⟨_, rfl⟩ (Paired.cons ⟨_, rfl⟩ (Paired.nil)))⟩⟩ (Paired.cons ⟨rfl, da1_7, rfl, fun H => .inr ⟨_, _, _, e1_7, rfl, rfl, (by show 3 <= sizeLine; decide), Paired.cons ⟨_, rfl⟩ (Paired.cons ⟨_, rfl⟩ (Paired.cons ⟨_, rfl⟩ (Paired.nil)))⟩⟩ (Paired.cons ⟨rfl, da1_8, rfl, fun H => .inr ⟨_, _, _, e1_8, rfl, rfl, (by show 3 <= sizeLine; decide), Paired.cons ⟨_, rfl⟩ (Paired.cons ⟨_, rfl⟩ (Paired.cons ⟨_, rfl⟩ (Paired.nil)))⟩⟩ (Paired.cons ⟨rfl, da1_9, rfl, fun H => .inr ⟨_, _, _, e1_9, rfl, rfl, (by show 5 <= sizeLine; decide), Paired.cons ⟨_, rfl⟩ (Paired.cons ⟨_, rfl⟩ (Paired.cons ⟨_, rfl⟩ (Paired.cons ⟨_, rfl⟩ (Paired.cons ⟨_, rfl⟩ (Paired.nil)))))⟩⟩ (Paired.cons ⟨rfl, da1_10, rfl, fun H => .inr ⟨_, _, _, e1_10, rfl, rfl, (by show 5 <= sizeLine; decide), Paired.cons ⟨_, rfl⟩ (Paired.cons ⟨_, rfl⟩ (Paired.cons ⟨_, rfl⟩ (Paired.cons ⟨_, rfl⟩ (Paired.cons ⟨_, rfl⟩ (Paired.nil)))))⟩⟩ (Paired.cons ⟨rfl, da1_11, rfl, fun H => .inr ⟨_, _, _, e1_11, rfl, rfl, (by show 5 <= sizeLine; decide), Paired.cons ⟨_, rfl⟩ (Paired.cons ⟨_, rfl⟩ (Paired.cons ⟨_, rfl⟩ (Paired.cons ⟨_, rfl⟩ (Paired.cons ⟨_, rfl⟩ (Paired.nil)))))⟩⟩ (Paired.cons ⟨rfl, da1_12, rfl, fun H => .inr ⟨_, _, _, e1_12, rfl, rfl, (by show 5 <= sizeLine; decide), Paired.cons ⟨_, rfl⟩ (Paired.cons ⟨_, rfl⟩ (Paired.cons ⟨_, rfl⟩ (Paired.cons ⟨_, rfl⟩ (Paired.cons ⟨_, rfl⟩ (Paired.nil)))))⟩⟩ (Paired.nil))))))))))))))⟩
  have gl : Glb K mg := ⟨⟨_, PySem.W.mg_of X G i1⟩, ⟨_, PySem.W.mg_of X G i2⟩, ⟨_, PySem.W.mg_of X G i3⟩, ⟨_, PySem.W.mg_of X G i4⟩⟩
  refine ⟨PySem.W.fnOf "law" "law" (defArgs sLaw) (defBody sLaw) (defScope sLaw) .none kV28 dc28 pm28 an28 cd28 ct28, fun s v => .of_eq rfl, fun base _ _ => ?_⟩
  have cN := ok_next (P := l.prog) (w := w) (base := base) h__law_next
  have cRi := ok_rising (P := l.prog) (w := w) (base := base) h_rising_pairs B
  have cWp := ok_wpn h_with_pair_and_number B cRi
  have cS := bO h_sayings gl (eY h_with_number B) (ok_rests h_rests B gl) (aO h_eithers B) (hU h_with_pair) cRi (ok_unlike h_unlike_pairs B) (ok_gaps h_gaps gl cWp) cWp (ok_three h_with_three B cRi)
  have cH := ok_shown (P := l.prog) (w := w) (base := base) h_shown_saying B gd
  have cR := ok_readX h_read_saying cS cH ex_NoSaying PySem.F.excBase_ValueError
  have R : Refs K mg _ := ⟨mg_NoSaying, em_NoSaying_NoSaying, xc_NoSaying, kv_NoSaying, ⟨_, mg_SayError, kt_NoSaying_SayError⟩, ⟨_, mg_NoRow, kt_NoSaying_NoRow⟩, ⟨_, mg_NoBox, kt_NoSaying_NoBox⟩, ⟨_, mg_NoForm, kt_NoSaying_NoForm⟩⟩
  have cD := ok_bad h__law_bad B cN (kO h__law_strange B cN) (iO h__law_numbers B cN) (ok_words h__law_words B cN) (jO h__law_figures B cN) (ok_two h__law_two B cN) (ok_three3 h__law_three B cN)
  exact ok_law F (ok_cells h__law_cells B) (ok_case h__law_case B (ok_names h__law_names B cN (dO h__law_letters B cN) (ok_other h__law_other B)) (ok_boxes h__law_boxes B cN) cD (lO h__law_refused B R cR) (ok_read h_read_saying cS cH))
theorem walk {l : PySem.W.OpenLaw} {q : Program} {loose : List Str} {XP : (Str -> Option Value) -> Heap -> Prop} {YP : World -> Heap -> Prop} {d : DefRec} {K : Params -> PySem.W.Frag} (hn : l.most = some 63) (hdf : d.params.defaults = [])
    (hY : ∀ (w : World) (h : Heap), YP w h -> (K w.params).In h)
    (F : ∀ (w : World) (mg : Str -> Option Value) (fa : Addr) (h : Heap), (K w.params).In h -> h.Ns mainGlobals mg -> mg d.name = some (.ref fa) ->
      ∃ fd : FuncData, (∀ (s : Shared) (u : Value), BindsTo s fd ⟨[u], []⟩ [("script", u)]) /\ ∀ base : Heap, (K w.params).In base -> base.Ns mainGlobals mg -> FnOk l.prog w (K w.params) mg base CX0 8 fa fd ["script"] (spLaw (K w.params))) :
    PySem.W.WalkO q loose XP YP l.row.toRowW d [] (fun f vs => PySem.call f vs) :=
  L2.walk_of (n := 63) (k := 8) (x := "script") (CX := fun _ => CX0) (sp := fun w => spLaw (K w.params)) hn (by decide) hdf ⟨rfl, by decide, by decide⟩ hY F (fun _ _ a ns hl _ hS => ⟨a, ns, rfl, hS, hl, fun _ => rfl⟩) fun _ _ _ _ _ z => z
end K25
open PySem PySem.W PyProof.Rows
noncomputable def PySem.W.Fast.tw90343872475197607 : Type := PySem.Params
theorem PySem.W.Fast.te90343872475197607 : PySem.Params = PySem.W.Fast.tw90343872475197607 := rfl
noncomputable def PySem.W.Fast.tw15641715125113993005 : Type := PySem.Expr
theorem PySem.W.Fast.te15641715125113993005 : PySem.Expr = PySem.W.Fast.tw15641715125113993005 := rfl
set_option maxRecDepth 100000 in
set_option maxHeartbeats 0 in
theorem PySem.Challenge.cw_sayswho_k25_sayings_refused_holds : PySem.Challenge.rw_sayswho_k25_sayings_refused.Holds := by
  w_on; o_law; k_head; (case hw => w_witness2)
  k_fill
  refine K25.walk (l := PySem.Challenge.rw_sayswho_k25_sayings_refused) rfl rfl (fun w h Y => PySem.W.kIn_of Y) ?F
  case F =>
    intro w mg fa h KX G hmg
    refine' K25.all_mk KX G hmg ?a1 ?l1 ?c1 ?k1 ?a2 ?l2 ?c2 ?k2 ?a3 ?l3 ?c3 ?k3 ?a4 ?l4 ?c4 ?k4 ?a5 ?l5 ?c5 ?k5 ?a6 ?l6 ?c6 ?k6 ?a7 ?l7 ?c7 ?k7 ?a8 ?l8 ?c8 ?k8 ?a9 ?l9 ?c9 ?k9 ?a10 ?l10 ?c10 ?k10 ?a11 ?l11 ?c11 ?k11 ?a12 ?l12 ?c12 ?k12 ?a13 ?l13 ?c13 ?k13 ?a14 ?l14 ?c14 ?k14 ?a15 ?l15 ?c15 ?k15 ?a16 ?l16 ?c16 ?k16 ?a17 ?l17 ?c17 ?k17 ?a18 ?l18 ?c18 ?k18 ?a19 ?l19 ?c19 ?k19 ?a20 ?l20 ?c20 ?k20 ?a21 ?l21 ?c21 ?k21 ?a22 ?l22 ?c22 ?k22 ?a23 ?l23 ?c23 ?k23 ?a24 ?l24 ?c24 ?k24 ?a25 ?l25 ?c25 ?k25 ?a26 ?l26 ?c26 ?k26 ?a27 ?l27 ?c27 ?k27 ?a28 ?l28 ?c28 ?k28  ?i1 ?i2 ?i3 ?i4   ?d1 ?dl1 ?e1_0 ?e1_1 ?e1_2 ?e1_3 ?e1_4 ?e1_5 ?e1_6 ?e1_7 ?e1_8 ?e1_9 ?e1_10 ?e1_11 ?e1_12 ?x1 ?y1 ?nx_SayError ?tx_SayError ?cx_SayError ?nx_NoRow ?tx_NoRow ?cx_NoRow ?nx_NoBox ?tx_NoBox ?cx_NoBox ?nx_NoSaying ?tx_NoSaying ?cx_NoSaying ?nx_NoForm ?tx_NoForm ?cx_NoForm ?gt_ ?tk_ ?ga_NoSaying ?gh_NoSaying ?at_NoSaying ?mr_NoSaying ?mb_NoSaying ?ve_NoSaying ?sb_NoSaying_SayError ?ne_NoSaying_SayError ?sb_NoSaying_NoRow ?ne_NoSaying_NoRow ?sb_NoSaying_NoBox ?ne_NoSaying_NoBox ?sb_NoSaying_NoForm ?ne_NoSaying_NoForm ?sh_NoSaying_NoSaying ?be_NoSaying ?z1 ?z2 ?z3 ?z4 ?z5 ?z6 ?z7 ?z8 ?z9 ?z10
    (case a1 => k_is); (case l1 => k_is); (case c1 => k_is); (case k1 => k_is)
    (case a2 => k_is); (case l2 => k_is); (case c2 => k_is); (case k2 => k_is)
    (case a3 => k_is); (case l3 => k_is); (case c3 => k_is); (case k3 => k_is)
    (case a4 => k_is); (case l4 => k_is); (case c4 => k_is); (case k4 => k_is)
    (case a5 => k_is); (case l5 => k_is); (case c5 => k_is); (case k5 => k_is)
    (case a6 => k_is); (case l6 => k_is); (case c6 => k_is); (case k6 => k_is)
    (case a7 => k_is); (case l7 => k_is); (case c7 => k_is); (case k7 => k_is)
    (case a8 => k_is); (case l8 => k_is); (case c8 => k_is); (case k8 => k_is)
    (case a9 => k_is); (case l9 => k_is); (case c9 => k_is); (case k9 => k_is)
    (case a10 => k_is); (case l10 => k_is); (case c10 => k_is); (case k10 => k_is)
    (case a11 => k_is); (case l11 => k_is); (case c11 => k_is); (case k11 => k_is)
    (case a12 => k_is); (case l12 => k_is); (case c12 => k_is); (case k12 => k_is)
    (case a13 => k_is); (case l13 => k_is); (case c13 => k_is); (case k13 => k_is)
    (case a14 => k_is); (case l14 => k_is); (case c14 => k_is); (case k14 => k_is)
    (case a15 => k_is); (case l15 => k_is); (case c15 => k_is); (case k15 => k_is)
    (case a16 => k_is); (case l16 => k_is); (case c16 => k_is); (case k16 => k_is)
    (case a17 => k_is); (case l17 => k_is); (case c17 => k_is); (case k17 => k_is)
    (case a18 => k_is); (case l18 => k_is); (case c18 => k_is); (case k18 => k_is)
    (case a19 => k_is); (case l19 => k_is); (case c19 => k_is); (case k19 => k_is)
    (case a20 => k_is); (case l20 => k_is); (case c20 => k_is); (case k20 => k_is)
    (case a21 => k_is); (case l21 => k_is); (case c21 => k_is); (case k21 => k_is)
    (case a22 => k_is); (case l22 => k_is); (case c22 => k_is); (case k22 => k_is)
    (case a23 => k_is); (case l23 => k_is); (case c23 => k_is); (case k23 => k_is)
    (case a24 => k_is); (case l24 => k_is); (case c24 => k_is); (case k24 => k_is)
    (case a25 => k_is); (case l25 => k_is); (case c25 => k_is); (case k25 => k_is)
    (case a26 => k_is); (case l26 => k_is); (case c26 => k_is); (case k26 => k_is)
    (case a27 => k_is); (case l27 => k_is); (case c27 => k_is); (case k27 => k_is)
    (case a28 => k_is); (case l28 => k_is); (case c28 => k_is); (case k28 => k_is)
    (case i1 => k_is)
    (case i2 => k_is)
    (case i3 => k_is)
    (case i4 => k_is)
    (case d1 => k_is); (case dl1 => k_is); (case e1_0 => k_is); (case e1_1 => k_is); (case e1_2 => k_is); (case e1_3 => k_is); (case e1_4 => k_is); (case e1_5 => k_is); (case e1_6 => k_is); (case e1_7 => k_is); (case e1_8 => k_is); (case e1_9 => k_is); (case e1_10 => k_is); (case e1_11 => k_is); (case e1_12 => k_is)
    (case x1 => k_is); (case y1 => k_exc)
    (case nx_SayError => k_is)
    (case tx_SayError => k_is)
    (case cx_SayError => k_is)
    (case nx_NoRow => k_is)
    (case tx_NoRow => k_is)
    (case cx_NoRow => k_is)
    (case nx_NoBox => k_is)
    (case tx_NoBox => k_is)
    (case cx_NoBox => k_is)
    (case nx_NoSaying => k_is)
    (case tx_NoSaying => k_is)
    (case cx_NoSaying => k_is)
    (case nx_NoForm => k_is)
    (case tx_NoForm => k_is)
    (case cx_NoForm => k_is)
    (case gt_ => k_is)
    (case tk_ => k_is)
    (case ga_NoSaying => k_is)
    (case gh_NoSaying => k_is)
    (case at_NoSaying => k_is)
    (case mr_NoSaying => k_is)
    (case mb_NoSaying => k_is)
    (case ve_NoSaying => k_is)
    (case sb_NoSaying_SayError => k_is)
    (case ne_NoSaying_SayError => decide)
    (case sb_NoSaying_NoRow => k_is)
    (case ne_NoSaying_NoRow => decide)
    (case sb_NoSaying_NoBox => k_is)
    (case ne_NoSaying_NoBox => decide)
    (case sb_NoSaying_NoForm => k_is)
    (case ne_NoSaying_NoForm => decide)
    (case sh_NoSaying_NoSaying => k_is)
    (case be_NoSaying => k_is)
    (case z1 => k_is); (case z2 => k_is); (case z3 => k_is); (case z4 => k_is); (case z5 => k_is); (case z6 => k_is); (case z7 => k_is); (case z8 => k_is); (case z9 => k_is); (case z10 => k_is)
#print axioms PySem.Challenge.cw_sayswho_k25_sayings_refused_holds
