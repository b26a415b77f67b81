import PyProof.Rows.All
import Wide.All
import OpenK.AllK
import Wide.FinOn
import PyProof.EqAt
import PyProof.EqKinds
import PyProof.TupleCall
import KE.BitLaws
import PyProof.FactsAll.range_2
import PyProof.FactsAll.int_6
import PyProof.FactsAll.int_0
import PyProof.FactsAll.tuple_2
import PyProof.ListMulRoad
import PyProof.StrOps2
import PyProof.ReprRoads
import KE.KFmtOwn
import PyProof.InstNe
import PyProof.Rows.SetFrom
import PyProof.SetRoads
import PyProof.FString
import PyProof.CallStr
import PyProof.StrLawsRepr
import PyProof.Rows.StrDigits
import PySem.Challenge.RW_digitway_k17_whole_small_shapes

set_option Elab.async false
set_option linter.all false
set_option maxRecDepth 100000
/-! THE HAND LAYER, for ints, bools, texts, own classes, lists, tuples, dicts, comprehensions, walks over dicts, enumerate, zip, reversed, texts, calls, loops. Paste it whole ahead of your own text; what your proof does not reach may be deleted. -/
namespace L2
open PySem PySem.Spec PyProof.Rows

/-- a key: an int or a str -/
abbrev Key := Sum Int Str
def keyIs : Key → Value → Bool
  | .inl k, v => Value.isInt k v
  | .inr x, v => Value.isStrOf x v
def keyH (w : World) : Key → Int
  | .inl k => hashInt k
  | .inr x => hashStr w x
theorem keyIs_shape : ∀ {k : Key} {v : Value}, keyIs k v = true → (∃ i t, k = Sum.inl i ∧ v = Value.int i t) ∨ (∃ x t, k = Sum.inr x ∧ v = Value.str x t)
  | .inl i, v, h => by
    obtain ⟨t, e⟩ := Value.isInt_shape (k := i) (v := v) h
    exact .inl ⟨i, t, rfl, e⟩
  | .inr x, v, h => by
    obtain ⟨t, e⟩ := Value.isStrOf_shape (x := x) (v := v) h
    exact .inr ⟨x, t, rfl, e⟩
theorem keyIs_int (i : Int) (t : Tok) : keyIs (.inl i) (.int i t) = true := by simp [keyIs, Value.isInt]
theorem keyIs_str (x : Str) (t : Tok) : keyIs (.inr x) (.str x t) = true := by simp [keyIs, Value.isStrOf]
theorem key_ll (a b : Int) : decide ((Sum.inl a : Key) = Sum.inl b) = (a == b) := by
  by_cases e : a = b
  · subst e; simp
  · have h : ¬ (Sum.inl a : Key) = Sum.inl b := fun q => e (Sum.inl.inj q)
    rw [decide_eq_false h]
    exact (beq_eq_false_iff_ne.mpr e).symm
theorem key_rr (a b : Str) : decide ((Sum.inr a : Key) = Sum.inr b) = decide (a = b) := by
  by_cases e : a = b
  · subst e; simp
  · have h : ¬ (Sum.inr a : Key) = Sum.inr b := fun q => e (Sum.inr.inj q)
    rw [decide_eq_false h, decide_eq_false e]
theorem key_lr (a : Int) (b : Str) : decide ((Sum.inl a : Key) = Sum.inr b) = false := decide_eq_false (fun q => nomatch q)
theorem key_rl (a : Str) (b : Int) : decide ((Sum.inr a : Key) = Sum.inl b) = false := decide_eq_false (fun q => nomatch q)

def mixKind (prog : Program) (w : World) : PySem.KeyKind prog w Key where
  is := keyIs
  hash := keyH w
  inj := fun v a b ha hb => by
    rcases keyIs_shape ha with ⟨i, t, rfl, rfl⟩ | ⟨x, t, rfl, rfl⟩
    · rcases keyIs_shape hb with ⟨j, u, rfl, e⟩ | ⟨y, u, rfl, e⟩
      · injection e with e1 _; rw [e1]
      · exact nomatch e
    · rcases keyIs_shape hb with ⟨j, u, rfl, e⟩ | ⟨y, u, rfl, e⟩
      · exact nomatch e
      · injection e with e1 _; rw [e1]
  byValue := fun k v h => by
    rcases keyIs_shape h with ⟨i, t, rfl, rfl⟩ | ⟨x, t, rfl, rfl⟩ <;> rfl
  pyHash := fun hv h => by
    rcases keyIs_shape hv with ⟨i, t, rfl, rfl⟩ | ⟨x, t, rfl, rfl⟩
    · exact wpAny_pyHash_int h
    · exact wpAny_pyHash_str h
  eqBool := fun hu hv h => by
    rcases keyIs_shape hu with ⟨i, t, rfl, rfl⟩ | ⟨x, t, rfl, rfl⟩
    · rcases keyIs_shape hv with ⟨j, u, rfl, rfl⟩ | ⟨y, u, rfl, rfl⟩
      · rw [key_ll] at h; exact wpAny_eqBool_int h
      · rw [key_lr] at h; exact SeqAt.EqAt.int_str i t y u _ _ _ _ h
    · rcases keyIs_shape hv with ⟨j, u, rfl, rfl⟩ | ⟨y, u, rfl, rfl⟩
      · rw [key_rl] at h; exact SeqAt.EqAt.str_int x t j u _ _ _ _ h
      · rw [key_rr] at h; exact wpAny_eqBool_str h
  «strs» := fun k x t v h => by
    rcases keyIs_shape h with ⟨i, u, rfl, e⟩ | ⟨y, u, rfl, e⟩
    · exact nomatch e
    · injection e with e1 _
      subst e1
      cases v <;> rfl

theorem mixKind_is (prog : Program) (w : World) (k : Key) (v : Value) : (mixKind prog w).is k v = keyIs k v := rfl
theorem mixKind_int (prog : Program) (w : World) (i : Int) (t : Tok) : (mixKind prog w).is (.inl i) (.int i t) = true := keyIs_int i t
theorem mixKind_str (prog : Program) (w : World) (x : Str) (t : Tok) : (mixKind prog w).is (.inr x) (.str x t) = true := keyIs_str x t
end L2

namespace L2
open PySem PySem.Spec PyProof.Rows

/-- a value, without the heap -/
inductive V where
  | non | bl (b : Bool) | int (i : Int) | str (x : Str) | byt (b : Array UInt8) | flt (b : UInt64) | ref (a : Addr) | ty (n : String)
  deriving DecidableEq

def RelV : V → Value → Prop
  | .non, u => u = Value.none
  | .bl b, u => u = Value.bool b
  | .int i, u => ∃ t, u = Value.int i t
  | .str x, u => ∃ t, u = Value.str x t
  | .byt b, u => ∃ t, u = Value.bytes b t
  | .flt b, u => ∃ t, u = Value.float b t
  | .ref a, u => u = Value.ref a
  | .ty n, u => u = Value.type n

abbrev Vals : List V → List Value → Prop := Paired RelV
theorem Vals.length {xs : List V} {us : List Value} (r : Vals xs us) : xs.length = us.length := Paired.length r
theorem Vals.get : ∀ {xs : List V} {us : List Value} {i : Nat} {x : V}, Vals xs us → xs[i]? = some x → ∃ u, us[i]? = some u ∧ RelV x u
  | _, _, _, _, .nil, e => by simp at e
  | _, _, 0, _, .cons r _, e => by simp at e; subst e; exact ⟨_, rfl, r⟩
  | _, _, i + 1, x, .cons _ t, e => by
    obtain ⟨u, h1, h2⟩ := Vals.get (i := i) (x := x) t (by simpa using e)
    exact ⟨u, by simpa using h1, h2⟩
theorem Vals.set {x : V} {u : Value} (r : RelV x u) : ∀ {xs : List V} {us : List Value} (i : Nat), Vals xs us → Vals (xs.set i x) (us.set i u)
  | _, _, _, .nil => .nil
  | _, _, 0, .cons _ t => .cons r t
  | _, _, i + 1, .cons q t => .cons q (Vals.set r i t)
theorem Vals.append : ∀ {xs ys : List V} {us ws : List Value}, Vals xs us → Vals ys ws → Vals (xs ++ ys) (us ++ ws)
  | _, _, _, _, .nil, s => s
  | _, _, _, _, .cons r t, s => .cons r (Vals.append t s)
theorem Vals.take : ∀ {xs : List V} {us : List Value} (n : Nat), Vals xs us → Vals (xs.take n) (us.take n)
  | _, _, 0, _ => .nil
  | _, _, _ + 1, .nil => .nil
  | _, _, n + 1, .cons r t => .cons r (Vals.take n t)
theorem Vals.drop : ∀ {xs : List V} {us : List Value} (n : Nat), Vals xs us → Vals (xs.drop n) (us.drop n)
  | _, _, 0, r => r
  | _, _, _ + 1, .nil => .nil
  | _, _, n + 1, .cons _ t => Vals.drop n t
def RelO : Option V → Option Value → Prop
  | some v, some u => RelV v u
  | none, none => True
  | _, _ => False
def KV {κ : Type} : List (κ × V) → List (κ × Value) → Prop := Paired fun (p : κ × V) (q : κ × Value) => p.1 = q.1 ∧ RelV p.2 q.2

/-- a key of a dict (00_mix): an int or a text -/
def kV : Key → V
  | .inl i => .int i
  | .inr x => .str x

/-- what stands at a tracked address -/
inductive HO where
  /-- a list -/
  | lst (xs : List V)
  /-- a tuple (never changes) -/
  | tup (xs : List V)
  /-- a dict whose keys are ints and texts; one whose keys are tuples of ints and texts (the empty one is both) -/
  | dK (kvs : List (Key × V)) | dT (kvs : List (List Key × V))
  /-- a set of ints: its members, its size -/
  | set (S : Int → Bool) (n : Nat)
  /-- an instance of the class at C, its dict at dx, its attributes -/
  | ins (C dx : Addr) (fs : List (Str × V))
  /-- the dict of the instance at x -/
  | own (x : Addr)
  /-- the dict of an exception -/
  | xd (fs : List (Str × V))
  /-- a bound method, f of x -/
  | met (f x : Addr)
  /-- a range object lo, lo + 1, .. below hi -/
  | rng (lo hi : Int)
  /-- a thing that is known to the object (the script; a dict while a loop walks it): read, never written while it is so -/
  | frz (o : Obj) (u : HO)
  /-- a code object's table -/
  | tbl (ps : Array Value)
  /-- any other thing, by what is true of its one object (a def of one's own: SetO a S n := HO.ext fun h => ..) -/
  | ext (φ : Heap → Prop)

abbrev Hp := Addr → Option HO
def upd (H : Hp) (a : Addr) (o : HO) : Hp := fun b => if b = a then some o else H b
theorem upd_same {H : Hp} {a : Addr} {o : HO} : upd H a o a = some o := by unfold upd; rw [if_pos rfl]
theorem upd_ne {H : Hp} {a b : Addr} {o : HO} (h : b ≠ a) : upd H a o b = H b := by unfold upd; rw [if_neg h]
theorem upd_upd {H : Hp} {a : Addr} {o u : HO} : upd (upd H a o) a u = upd H a u := by
  funext b; unfold upd; split <;> rfl
/-- two objects of different content stand apart -/
theorem ne_of {H : Hp} {a b : Addr} {o u : HO} (h : H a = some o) (h' : H b = some u) (d : o ≠ u) : a ≠ b := by
  intro e; subst e; rw [h] at h'; exact d (Option.some.inj h')
theorem ne_of_none {H : Hp} {a b : Addr} {o : HO} (h : H a = some o) (h' : H b = none) : a ≠ b := by
  intro e; subst e; rw [h] at h'; cases h'

section
variable (P : Program) (w : World)
def ObjOk (H : Hp) (h : Heap) (a : Addr) : HO → Prop
  | .lst xs => xs.length ≤ sizeLine ∧ ∃ (its : List Value) (n : Nat), Vals xs its ∧ h.get? a = some { cls := .type "list", data := .seq its.toArray n }
  | .tup xs => xs.length ≤ sizeLine ∧ ∃ its : List Value, Vals xs its ∧ IsTup h a its.toArray
  | .dK kvs => kvs.length ≤ sizeLine ∧ (a == sysModules) = false ∧ ∃ vs, KV kvs vs ∧ h.DictOf (mixKind P w) a vs
  | .dT kvs => kvs.length ≤ sizeLine ∧ (a == sysModules) = false ∧ ∃ xs : List (List Key × Addr × Value),
      Paired (fun (p : List Key × V) (q : List Key × Addr × Value) => p.1 = q.1 ∧ H q.2.1 = some (.tup (p.1.map kV)) ∧ RelV p.2 q.2.2) kvs xs ∧
      ∃ o es ep, h.get? a = some o ∧ o.ExactDict ∧ o.data = .dict es ep ∧ es.toList = xs.map (entryOfKey (tupleKind (mixKind P w))) ∧ (xs.map (·.1)).Nodup
  | .set S n => h.SetOf (intKind P w) a S n
  | .ins C dx fs => H dx = some (.own a) ∧ fs.length ≤ 1000 ∧ dx ≠ a ∧ h.get? a = some (PySem.W.instObj C dx) ∧
      ∃ mA, h.Ns1 dx mA ∧ (∀ f, RelO (fs.lookup f) (mA f)) ∧ PySem.Within mA (fs.map (·.1))
  | .own _ => ∃ o, h.get? a = some o
  | .xd fs => ∃ mA, h.Ns1 a mA ∧ ∀ f, RelO (fs.lookup f) (mA f)
  | .rng lo hi => ∃ t u v, h.get? a = some { cls := .type "range", data := .fields #[.int lo t, .int hi u, .int 1 v] }
  | .frz o u => h.get? a = some o ∧ ObjOk H h a u
  | .tbl ps => h.get? a = some { cls := .none, data := .fields ps }
  | .met f x => h.get? a = some (PySem.W.methodObj (.ref f) (.ref x))
  | .ext φ => φ h ∧ (∃ o, h.get? a = some o) ∧ ∀ h1 h2 : Heap, φ h1 → (∀ o, h1.get? a = some o → h2.get? a = some o) → φ h2
/-- the abstract heap is held -/
def HOk (H : Hp) (h : Heap) : Prop := ∀ a o, H a = some o → ObjOk P w H h a o
end

section
variable {P : Program} {w : World} {H H' : Hp} {h h' : Heap} {a : Addr} {o : HO}
theorem ObjOk.lt (x : ObjOk P w H h a o) : a < h.objs.size := by
  cases o with
  | lst xs => obtain ⟨_, _, _, _, e⟩ := x; exact Heap.lt_size e
  | tup xs => obtain ⟨_, _, _, p⟩ := x; exact p.lt
  | dK kvs => obtain ⟨_, _, _, _, o, _, _, e, _⟩ := x; exact Heap.lt_size e
  | dT kvs => obtain ⟨_, _, _, _, o, _, _, e, _⟩ := x; exact Heap.lt_size e
  | set S n => obtain ⟨o, _, _, _, e, _⟩ := x; exact Heap.lt_size e
  | ins C dx fs => obtain ⟨_, _, _, e, _⟩ := x; exact Heap.lt_size e
  | own y => obtain ⟨_, e⟩ := x; exact Heap.lt_size e
  | xd fs => obtain ⟨_, ⟨_, _, _, e, _⟩, _⟩ := x; exact Heap.lt_size e
  | rng lo hi => obtain ⟨_, _, _, e⟩ := x; exact Heap.lt_size e
  | frz ob u => obtain ⟨e, _⟩ := x; exact Heap.lt_size e
  | tbl ps => exact Heap.lt_size (show h.get? a = some _ from x)
  | met f y => exact Heap.lt_size (show h.get? a = some _ from x)
  | ext φ => obtain ⟨_, ⟨_, e⟩, _⟩ := x; exact Heap.lt_size e
theorem Paired.mapP {α β : Type} {F G : α → β → Prop} : ∀ {l₁ : List α} {l₂ : List β}, Paired F l₁ l₂ → (∀ a b, F a b → G a b) → Paired G l₁ l₂
  | _, _, .nil, _ => .nil
  | _, _, .cons r t, f => .cons (f _ _ r) (Paired.mapP t f)
/-- what an object's description leans on: its own object, its own dict, the tuples -/
theorem ObjOk.stay (x : ObjOk P w H h a o) (k : ∀ b u, (b = a ∨ H b = some (.own a)) → h.get? b = some u → h'.get? b = some u)
    (ho : ∀ b, H b = some (.own a) → H' b = some (.own a)) (ht : ∀ b xs, H b = some (.tup xs) → H' b = some (.tup xs)) : ObjOk P w H' h' a o := by
  induction o with
  | lst xs => obtain ⟨z, its, n, r, e⟩ := x; exact ⟨z, its, n, r, k _ _ (.inl rfl) e⟩
  | tup xs => obtain ⟨z, its, r, ob, e, c⟩ := x; exact ⟨z, its, r, ob, k _ _ (.inl rfl) e, c⟩
  | dK kvs => obtain ⟨z, y, vs, r, ob, es, ep, e, c⟩ := x; exact ⟨z, y, vs, r, ob, es, ep, k _ _ (.inl rfl) e, c⟩
  | dT kvs =>
    obtain ⟨z, y, xs, r, ob, es, ep, e, c⟩ := x
    exact ⟨z, y, xs, Paired.mapP r fun p q z => ⟨z.1, ht _ _ z.2.1, z.2.2⟩, ob, es, ep, k _ _ (.inl rfl) e, c⟩
  | set S n => obtain ⟨ob, es, ep, t, e, c⟩ := x; exact ⟨ob, es, ep, t, k _ _ (.inl rfl) e, c⟩
  | ins C dx fs =>
    obtain ⟨d, z, ne, e, mA, ⟨od, es, ep, e2, c⟩, r⟩ := x
    exact ⟨ho _ d, z, ne, k _ _ (.inl rfl) e, mA, ⟨od, es, ep, k _ _ (.inr d) e2, c⟩, r⟩
  | own y => obtain ⟨ob, e⟩ := x; exact ⟨ob, k _ _ (.inl rfl) e⟩
  | xd fs => obtain ⟨mA, ⟨od, es, ep, e, c⟩, r⟩ := x; exact ⟨mA, ⟨od, es, ep, k _ _ (.inl rfl) e, c⟩, r⟩
  | rng lo hi => obtain ⟨t, u, v, e⟩ := x; exact ⟨t, u, v, k _ _ (.inl rfl) e⟩
  | frz ob u ih => obtain ⟨e, q⟩ := x; exact ⟨k _ _ (.inl rfl) e, ih q⟩
  | tbl ps =>
    have e : h.get? a = some { cls := .none, data := .fields ps } := x
    show h'.get? a = some { cls := .none, data := .fields ps }
    exact k a _ (.inl rfl) e
  | met f y =>
    have e : h.get? a = some (PySem.W.methodObj (.ref f) (.ref y)) := x
    show h'.get? a = some (PySem.W.methodObj (.ref f) (.ref y))
    exact k a _ (.inl rfl) e
  | ext φ => obtain ⟨p, ⟨o, e⟩, st⟩ := x; exact ⟨st _ _ p fun o q => k _ _ (.inl rfl) q, ⟨o, k _ _ (.inl rfl) e⟩, st⟩
theorem HOk.lt (x : HOk P w H h) (e : H a = some o) : a < h.objs.size := (x a o e).lt
theorem HOk.fresh (x : HOk P w H h) (e : h.objs.size ≤ a) : H a = none := by
  cases q : H a with
  | none => rfl
  | some u => exact absurd (Nat.lt_of_lt_of_le (x.lt q) e) (Nat.lt_irrefl _)
/-- every object of the heap is kept -/
theorem HOk.kept (x : HOk P w H h) (k : ∀ b u, h.get? b = some u → h'.get? b = some u) : HOk P w H h' := fun a o e =>
  (x a o e).stay (fun b u _ q => k b u q) (fun _ q => q) fun _ _ q => q
/-- a new object is laid and tracked -/
theorem HOk.laid (x : HOk P w H h) (k : ∀ b u, h.get? b = some u → h'.get? b = some u) (hp : h.objs.size ≤ a) (new : ObjOk P w (upd H a o) h' a o) : HOk P w (upd H a o) h' := fun b u e => by
  have hn := x.fresh hp
  by_cases hb : b = a
  · subst hb; rw [upd_same] at e; cases e; exact new
  · rw [upd_ne hb] at e
    exact (x b u e).stay (fun c v _ q => k c v q) (fun c q => by rw [upd_ne (ne_of_none q hn)]; exact q) fun c xs q => by rw [upd_ne (ne_of_none q hn)]; exact q
end

/-- what may be read as u: it is u, or a known u -/
def Rd (H : Hp) (a : Addr) (u : HO) : Prop := H a = some u ∨ ∃ o, H a = some (.frz o u)
theorem Rd.ok {P : Program} {w : World} {H : Hp} {h : Heap} {a : Addr} {u : HO} (r : Rd H a u) (x : HOk P w H h) : ObjOk P w H h a u := by
  rcases r with r | ⟨o, r⟩
  · exact x a u r
  · obtain ⟨_, q⟩ := x a _ r
    exact q
/-- what may be written -/
def Mut : Option HO → Prop
  | some (.lst _) => True
  | some (.dK _) => True
  | some (.dT _) => True
  | some (.set _ _) => True
  | some (.ins _ _ _) => True
  | some (.ext _) => True
  | _ => False
section
variable {P : Program} {w : World} {H : Hp} {h h' : Heap} {x e : Addr} {o' : HO}
/-- the object at e is changed: x itself, or the dict of the instance x -/
theorem HOk.write (ok : HOk P w H h) (mu : Mut (H x)) (he : e = x ∨ H e = some (.own x)) (k : ∀ b u, b ≠ e → h.get? b = some u → h'.get? b = some u) (heo : ∃ u, h'.get? e = some u)
    (new : ObjOk P w (upd H x o') h' x o') : HOk P w (upd H x o') h' := fun b u q => by
  have nown : ∀ c y, H c = some (.own y) → c ≠ x := fun c y r z => by subst z; rw [r] at mu; exact mu
  have ntup : ∀ c xs, H c = some (.tup xs) → c ≠ x := fun c xs r z => by subst z; rw [r] at mu; exact mu
  by_cases hb : b = x
  · subst hb; rw [upd_same] at q; cases q; exact new
  · rw [upd_ne hb] at q
    by_cases hbe : b = e
    · have q' : H b = some (.own x) := by
        rcases he with z | z
        · exact absurd (hbe.trans z) hb
        · rw [hbe]; exact z
      rw [q] at q'; cases q'
      obtain ⟨v, hv⟩ := heo
      exact ⟨v, by rw [hbe]; exact hv⟩
    · refine (ok b u q).stay (fun c v hc r => k c v ?_ r) (fun c r => by rw [upd_ne (nown c b r)]; exact r) fun c xs r => by rw [upd_ne (ntup c xs r)]; exact r
      rcases hc with rfl | hc
      · exact hbe
      · rintro rfl
        rcases he with z | z
        · exact nown c b hc z
        · rw [hc] at z; cases z; exact hb rfl
end

/-! ### kept unless tracked; of the frames at fs (the callers') the slots may change (an exception that passes writes there); of the records at ex (iterators) nothing is said -/
structure Un (fs ex : List Addr) (H H' : Hp) (h h' : Heap) : Prop where
  keep : ∀ b o, h.get? b = some o → H b = none → b ∉ fs → b ∉ ex → h'.get? b = some o
  slot : ∀ b o, h.get? b = some o → H b = none → b ∈ fs → b ∉ ex → ∃ sl, h'.get? b = some { o with slots := sl }
  free : ∀ b o, h.get? b = some o → H b = none → b ∉ ex → H' b = none
  there : ∀ b o, h.get? b = some o → b ∉ ex → ∃ o', h'.get? b = some o'
  tups : ∀ b xs, H b = some (.tup xs) → H' b = some (.tup xs)
  frzs : ∀ b o u, H b = some (.frz o u) → H' b = some (.frz o u)
  tbls : ∀ b ps, H b = some (.tbl ps) → ∃ more, H' b = some (.tbl (ps ++ more))
section
variable {fs fs' ex ex' : List Addr} {H H1 H2 : Hp} {h h1 h2 h' : Heap} {a x e : Addr} {o : HO}
theorem Un.any (u : Un fs ex H H1 h h1) {b : Addr} {ob : Obj} (q : h.get? b = some ob) (n : H b = none) (hx : b ∉ ex) : ∃ sl, h1.get? b = some { ob with slots := sl } := by
  by_cases hb : b ∈ fs
  · exact u.slot b ob q n hb hx
  · exact ⟨ob.slots, u.keep b ob q n hb hx⟩
theorem Un.kept (k : ∀ b u, h.get? b = some u → h'.get? b = some u) : Un fs ex H H h h' :=
  ⟨fun b ob q _ _ _ => k b ob q, fun b ob q _ _ _ => ⟨ob.slots, k b ob q⟩, fun _ _ _ n _ => n, fun b ob q _ => ⟨ob, k b ob q⟩, fun _ _ q => q, fun _ _ _ q => q, fun _ ps q => ⟨#[], by rw [q]; simp⟩⟩
theorem Un.refl : Un fs ex H H h h := Un.kept fun _ _ q => q
theorem Un.laid (k : ∀ b u, h.get? b = some u → h'.get? b = some u) (hp : h.objs.size ≤ a) (hn : H a = none) : Un fs ex H (upd H a o) h h' where
  keep := fun b u q _ _ _ => k b u q
  slot := fun b u q _ _ _ => ⟨u.slots, k b u q⟩
  free := fun b u q n _ => by rw [upd_ne (Nat.ne_of_lt (Nat.lt_of_lt_of_le (Heap.lt_size q) hp))]; exact n
  there := fun b u q _ => ⟨u, k b u q⟩
  tups := fun b xs q => by rw [upd_ne (ne_of_none q hn)]; exact q
  frzs := fun b u xs q => by rw [upd_ne (ne_of_none q hn)]; exact q
  tbls := fun b ps q => ⟨#[], by rw [upd_ne (ne_of_none q hn), q]; simp⟩
theorem Un.write (mu : Mut (H x)) (he : e = x ∨ H e = some (.own x)) (k : ∀ b u, b ≠ e → h.get? b = some u → h'.get? b = some u) (heo : ∃ u, h'.get? e = some u) : Un fs ex H (upd H x o) h h' := by
  have hx : ∀ b, H b = none → b ≠ x := fun b n z => by subst z; rw [n] at mu; exact mu
  have hb : ∀ b, H b = none → b ≠ e := fun b n z => by
    subst z
    rcases he with r | r
    · exact hx b n r
    · rw [n] at r; cases r
  have hm : ∀ b u, H b = some u → ¬ Mut (some u) → b ≠ x := fun b u q nm z => by subst z; rw [q] at mu; exact nm mu
  refine ⟨fun b u q n _ _ => k b u (hb b n) q, fun b u q n _ _ => ⟨u.slots, k b u (hb b n) q⟩, fun b u q n _ => by rw [upd_ne (hx b n)]; exact n, fun b u q _ => ?_,
    fun b xs q => by rw [upd_ne (hm b _ q fun z => z)]; exact q, fun b u xs q => by rw [upd_ne (hm b _ q fun z => z)]; exact q, fun b ps q => ⟨#[], by rw [upd_ne (hm b _ q fun z => z), q]; simp⟩⟩
  by_cases hbe : b = e
  · subst hbe; exact heo
  · exact ⟨u, k b u hbe q⟩
end

/-! ### the heap without what is tracked -/
def trk (h : Heap) (H : Hp) : List Addr := (List.range h.objs.size).filter fun a => (H a).isSome
def hidT (h : Heap) (H : Hp) : Heap := PySem.W.hideAll h (trk h H)
theorem hidT_size (h : Heap) (H : Hp) : (hidT h H).objs.size = h.objs.size := PySem.W.hideAll_size _ _
theorem hidT_get {h : Heap} {H : Hp} {b : Addr} {o : Obj} (e : h.get? b = some o) (n : H b = none) : (hidT h H).get? b = some o :=
  PySem.W.hideAll_get _ e fun hm => by
    have q : (H b).isSome = true := (List.mem_filter.mp hm).2
    rw [n] at q; simp at q
theorem of_hidT {h : Heap} {H : Hp} {b : Addr} {o : Obj} (e : (hidT h H).get? b = some o) : h.get? b = some o ∧ H b = none := by
  have e' : h.get? b = some o := PySem.W.of_hideAll (trk h H) e
  refine ⟨e', ?_⟩
  cases q : H b with
  | none => rfl
  | some x =>
    have hm : b ∈ trk h H := List.mem_filter.mpr ⟨List.mem_range.mpr (Heap.lt_size e'), by simp [q]⟩
    have z : (hidT h H).get? b = none := PySem.W.hideAll_none (trk h H) hm
    rw [z] at e; cases e

/-! ### OpenK's ledger, filled with every new object but one -/
def allNews (g h : Heap) (L : Addr) : List (Addr × Obj) := (List.range h.objs.size).filterMap fun a => if a = L ∨ (g.get? a).isSome = true then none else (h.get? a).map fun o => (a, o)
def rest (g h : Heap) (L d : Addr) : List (Addr × Obj) := (allNews g h L).filter fun p => decide (p.1 ≠ d)
end L2

namespace L2
open PySem PySem.Spec PyProof.Rows

/-- the module's facts, over the base: the heap at the law's entry without what is tracked there -/
structure Mod (K : PySem.W.Frag) (mg : Str → Option Value) (base : Heap) : Prop where
  kin : K.In base
  glob : base.Ns mainGlobals mg
  blt : ∃ mb, base.Ns builtinsNs mb ∧ ∀ x : Str, x ≠ "__name__" → mb x = bootBuiltins x
  nolimit : base.NoLimit
  digits : ∃ mc, base.Ns cStatics mc ∧ mc "sys.int_max_str_digits" = none

/-- the context: a def's body (or a comprehension's block) running. base: fixed through the whole law; s₀, H₀: the entry; outer: the frames whose slots others may change (a def's callers); stack: all frames that run;
   ex: iterators that were made ahead of the entry and are walked here (a comprehension's); fn: the names whose cells were made at the entry (a def: all; a comprehension's block: its own); calm: not within an except suite; pn: pins that every state bears; xe: what is wanted of an exception that leaves the code -/
structure Cx where
  prog : Program
  w : World
  K : PySem.W.Frag
  mg : Str → Option Value
  base : Heap
  A : Around
  N : List Str
  s_0 : Shared
  H_0 : Hp
  env : Env
  outer : List Env
  stack : List Env
  ex : List Addr
  fn : Str → Bool
  calm : Bool
  pn : List (Addr × Obj)
  xe : Value → Shared → Prop
/-- the callers' frames -/
def frs (l : List Env) : List Addr := l.filterMap (·.frame)
abbrev Cx.fs (X : Cx) : List Addr := frs X.outer

def Vis (sc : Scope) (x : Str) : Prop := sc.names.lookup x = some .local ∨ sc.names.lookup x = some .cell ∨ sc.names.lookup x = some .free
def Loc (sc : Scope) (x : Str) : Prop := sc.names.lookup x = some .local ∨ sc.names.lookup x = some .cell
def Look (env : Env) (h : Heap) (m : Str → Option Value) (x : Str) (u : Value) : Prop :=
  (env.kindOf x = some .local ∧ m x = some u) ∨ ((env.kindOf x = some .cell ∨ env.kindOf x = some .free) ∧ ∃ c, env.cells.lookup x = some c ∧ h.IsCell c (some u))

structure Cx.Ok (X : Cx) : Prop where
  mod : Mod X.K X.mg X.base
  kind : X.env.scope.kind = .function
  glob : X.env.globals = mainGlobals
  blt : X.env.builtins = builtinsNs
  above : X.s_0.heap.objs.size ≤ X.env.locals
  inj : ∀ x y c, X.env.cells.lookup x = some c → X.env.cells.lookup y = some c → x = y
  has : ∀ x, (X.env.kindOf x = some .cell ∨ X.env.kindOf x = some .free) → ∃ c, X.env.cells.lookup x = some c
  cab : ∀ x c, X.fn x = true → X.env.cells.lookup x = some c → X.s_0.heap.objs.size ≤ c
  hd : X.calm = true → X.A.handled = none
  frames : X.A.frames = some X.stack
  stk : X.stack = X.outer ∨ (X.stack = X.env :: X.outer ∧ X.env.frame = some X.env.locals)
  exf : ∀ b ∈ X.ex, b ≠ X.env.locals ∧ ∀ x c, X.env.cells.lookup x = some c → c ≠ b
  bs : ∀ b o, X.base.get? b = some o → X.s_0.heap.get? b = some o ∧ X.H_0 b = none
  bsz : X.base.objs.size ≤ X.s_0.heap.objs.size
  noex : ∀ b o, X.base.get? b = some o → b ∉ X.ex
  exfs : ∀ b ∈ X.ex, b ∉ X.fs
  funs : X.s_0.heap.FunFrames X.base X.outer
  frf : ∀ b ∈ X.fs, X.H_0 b = none

structure Inv (X : Cx) (pins : List (Addr × Obj)) (σ : List (Option V)) (H : Hp) (s : Shared) : Prop where
  ok : X.Ok
  os : s.os = X.s_0.os
  bare : AllBare s.gens
  base : Un X.fs X.ex X.H_0 H X.s_0.heap s.heap
  loc : ∃ m, s.heap.Ns X.env.locals m ∧ ∀ (i : Nat) (x : Str) (v : V), X.N[i]? = some x → σ[i]? = some (some v) → Vis X.env.scope x → ∃ u, RelV v u ∧ Look X.env s.heap m x u
  cell : ∀ x c, X.env.cells.lookup x = some c → ∃ v, s.heap.IsCell c v
  free : H X.env.locals = none
  freeC : ∀ x c, X.env.cells.lookup x = some c → H c = none
  pin : ∀ p ∈ X.pn ++ pins, s.heap.get? p.1 = some p.2 ∧ H p.1 = none ∧ p.1 ≠ X.env.locals ∧ p.1 ∉ X.fs ∧ ∀ v, p.2.data ≠ .cell v
  hok : HOk X.prog X.w H s.heap
  len : σ.length = X.N.length

section
variable {X : Cx} {pins : List (Addr × Obj)} {σ : List (Option V)} {H H' : Hp} {s : Shared} {h' : Heap}

theorem Cx.Ok.nofr (ok : X.Ok) {b : Addr} {o : Obj} (e : X.base.get? b = some o) : b ∉ X.fs := fun hb => by
  have := (ok.funs.mem hb).1
  rw [e] at this; cases this
theorem Inv.bs (I : Inv X pins σ H s) : ∀ b o, X.base.get? b = some o → s.heap.get? b = some o ∧ H b = none := fun b o e =>
  ⟨I.base.keep b o (I.ok.bs b o e).1 (I.ok.bs b o e).2 (I.ok.nofr e) (I.ok.noex b o e), I.base.free b o (I.ok.bs b o e).1 (I.ok.bs b o e).2 (I.ok.noex b o e)⟩
theorem Inv.bk (I : Inv X pins σ H s) : ∀ b o, X.base.get? b = some o → s.heap.get? b = some o := fun b o e => (I.bs b o e).1
theorem Inv.mod (I : Inv X pins σ H s) : Mod X.K X.mg X.base := I.ok.mod
theorem Inv.kIn (I : Inv X pins σ H s) : X.K.In s.heap := I.ok.mod.kin.keeps I.bk
theorem Inv.lt (I : Inv X pins σ H s) : X.env.locals < s.heap.objs.size := let ⟨_, hn, _⟩ := I.loc; hn.lt
theorem Inv.sz (I : Inv X pins σ H s) : X.s_0.heap.objs.size ≤ s.heap.objs.size := Nat.le_trans I.ok.above (Nat.le_of_lt I.lt)
theorem Inv.nofs (I : Inv X pins σ H s) {a : Addr} (h : s.heap.objs.size ≤ a) : a ∉ X.fs := fun hb => by
  obtain ⟨_, o, ho, _⟩ := I.ok.funs.mem hb
  exact absurd (Nat.lt_of_lt_of_le (Heap.lt_size ho) (Nat.le_trans I.sz h)) (Nat.lt_irrefl _)
theorem Inv.cne (I : Inv X pins σ H s) : ∀ x c, X.env.cells.lookup x = some c → c ≠ X.env.locals := fun x c e z => by
  obtain ⟨v, o, ho, hd⟩ := I.cell x c e
  obtain ⟨m, ⟨o', es, ep, ho', hd', _⟩, _⟩ := I.loc
  rw [z, ho'] at ho; cases ho; rw [hd'] at hd; cases hd
theorem Inv.funs (I : Inv X pins σ H s) : s.heap.FunFrames X.base X.outer := by
  have all : ∀ (l : List Env), (∀ b ∈ frs l, b ∈ X.fs) → X.s_0.heap.FunFrames X.base l → s.heap.FunFrames X.base l := by
    intro l
    induction l with
    | nil => intro _ _; trivial
    | cons env r ih =>
      intro hs hl
      obtain ⟨hk, ⟨L, o, hf, hn, ho, hd⟩, hr⟩ := hl
      have hL : L ∈ X.fs := hs L (by unfold frs; rw [List.filterMap_cons, hf]; exact List.mem_cons_self)
      obtain ⟨sl, e⟩ := I.base.slot L o ho (I.ok.frf L hL) hL fun z => I.ok.exfs L z hL
      exact ⟨hk, ⟨L, _, hf, hn, e, hd⟩, ih (fun b hb => hs b (by unfold frs; rw [List.filterMap_cons, hf]; exact List.mem_cons_of_mem _ hb)) hr⟩
  exact all X.outer (fun _ hb => hb) I.ok.funs

/-- the frames that run, for a call -/
theorem Inv.stack (I : Inv X pins σ H s) : s.heap.FunFrames X.base X.stack := by
  rcases I.ok.stk with e | ⟨e, hf⟩
  · rw [e]; exact I.funs
  · rw [e]
    obtain ⟨m, hn, _⟩ := I.loc
    refine .cons (by rw [I.ok.kind]; decide) hf hn ?_ I.funs
    exact Heap.get?_none_of_le (Nat.le_trans I.ok.bsz I.ok.above)
theorem Inv.stkSub (I : Inv X pins σ H s) : ∀ b ∈ frs X.stack, b ∈ X.env.locals :: X.fs := fun b hb => by
  rcases I.ok.stk with e | ⟨e, hf⟩
  · rw [e] at hb; exact List.mem_cons_of_mem _ hb
  · rw [e] at hb
    unfold frs at hb
    rw [List.filterMap_cons, hf] at hb
    exact hb
theorem Inv.stkFree (I : Inv X pins σ H s) : ∀ b ∈ frs X.stack, H b = none := fun b hb => by
  rcases List.mem_cons.mp (I.stkSub b hb) with e | hb
  · rw [e]; exact I.free
  · obtain ⟨_, o, ho, _⟩ := I.ok.funs.mem hb
    exact I.base.free b o ho (I.ok.frf b hb) fun z => I.ok.exfs b z hb

/-- THE STEP: the untracked objects but the frame and the records at ch are kept (the callers' frames up to slots), the frame's map is kept, the new abstract heap is held -/
theorem Inv.step {g' : Array GenState} {t' : Nat} {d' : Drawn} {ch : List Addr} (I : Inv X pins σ H s)
    (hch : ∀ b ∈ ch, (b ∈ X.ex ∨ X.s_0.heap.objs.size ≤ b) ∧ b ≠ X.env.locals ∧ (∀ x c, X.env.cells.lookup x = some c → c ≠ b) ∧ ∀ p ∈ X.pn ++ pins, p.1 ≠ b)
    (keep : ∀ b o, b ≠ X.env.locals → b ∉ X.fs → b ∉ ch → s.heap.get? b = some o → H b = none → h'.get? b = some o)
    (slot : ∀ b o, b ≠ X.env.locals → b ∈ X.fs → b ∉ ch → s.heap.get? b = some o → H b = none → ∃ sl, h'.get? b = some { o with slots := sl }) (free : ∀ b o, b ∉ ch → s.heap.get? b = some o → H b = none → H' b = none)
    (there : ∀ b o, b ∉ ch → s.heap.get? b = some o → ∃ o', h'.get? b = some o')
    (tups : ∀ b xs, H b = some (.tup xs) → H' b = some (.tup xs)) (frzs : ∀ b o u, H b = some (.frz o u) → H' b = some (.frz o u)) (tbls : ∀ b ps, H b = some (.tbl ps) → ∃ more, H' b = some (.tbl (ps ++ more)))
    (ns : ∀ m, s.heap.Ns X.env.locals m → h'.Ns X.env.locals m) (hok : HOk X.prog X.w H' h') (hg : AllBare g') :
    Inv X pins σ H' { s with heap := h', gens := g', drawn := d', toks := t' } := by
  have neL : ∀ b o, X.s_0.heap.get? b = some o → b ≠ X.env.locals := fun b o e => Nat.ne_of_lt (Nat.lt_of_lt_of_le (Heap.lt_size e) I.ok.above)
  have neC : ∀ b o, X.s_0.heap.get? b = some o → b ∉ X.ex → b ∉ ch := fun b o e hx hb => by
    rcases (hch b hb).1 with z | z
    · exact hx z
    · exact absurd (Nat.lt_of_lt_of_le (Heap.lt_size e) z) (Nat.lt_irrefl _)
  have cellK : ∀ x c, X.env.cells.lookup x = some c → ∀ v, s.heap.IsCell c v → h'.IsCell c v := fun x c e v ⟨o, ho, hd⟩ => by
    have nch : c ∉ ch := fun z => (hch c z).2.2.1 x c e rfl
    by_cases hc : c ∈ X.fs
    · obtain ⟨sl, q⟩ := slot c o (I.cne x c e) hc nch ho (I.freeC x c e)
      exact ⟨_, q, hd⟩
    · exact ⟨o, keep c o (I.cne x c e) hc nch ho (I.freeC x c e), hd⟩
  refine ⟨I.ok, I.os, hg, ⟨fun b o e n hb hx => ?_, fun b o e n hb hx => ?_, fun b o e n hx => ?_, fun b o e hx => ?_, fun b xs e => tups b xs (I.base.tups b xs e), fun b o xs e => frzs b o xs (I.base.frzs b o xs e), fun b ps e => ?_⟩, ?_, fun x c e => ?_, ?_, fun x c e => ?_, fun p hp => ?_, hok, I.len⟩
  · exact keep b o (neL b o e) hb (neC b o e hx) (I.base.keep b o e n hb hx) (I.base.free b o e n hx)
  · obtain ⟨sl, e1⟩ := I.base.slot b o e n hb hx
    obtain ⟨sl', e2⟩ := slot b _ (neL b o e) hb (neC b o e hx) e1 (I.base.free b o e n hx)
    exact ⟨sl', e2⟩
  · obtain ⟨o', e1⟩ := I.base.there b o e hx
    exact free b o' (neC b o e hx) e1 (I.base.free b o e n hx)
  · obtain ⟨o', e1⟩ := I.base.there b o e hx
    exact there b o' (neC b o e hx) e1
  · obtain ⟨m1, e1⟩ := I.base.tbls b ps e
    obtain ⟨m2, e2⟩ := tbls b _ e1
    exact ⟨m1 ++ m2, by rw [e2, Array.append_assoc]⟩
  · obtain ⟨m, hn, hl⟩ := I.loc
    refine ⟨m, ns m hn, fun i x v e1 e2 e3 => ?_⟩
    obtain ⟨u, r, l⟩ := hl i x v e1 e2 e3
    refine ⟨u, r, ?_⟩
    rcases l with l | ⟨k, c, e, z⟩
    · exact .inl l
    · exact .inr ⟨k, c, e, cellK x c e _ z⟩
  · obtain ⟨v, z⟩ := I.cell x c e
    exact ⟨v, cellK x c e v z⟩
  · obtain ⟨m, ⟨o, _, _, ho, _⟩, _⟩ := I.loc
    exact free _ o (fun z => (hch _ z).2.1 rfl) ho I.free
  · obtain ⟨v, o, ho, hd⟩ := I.cell x c e
    exact free c o (fun z => (hch c z).2.2.1 x c e rfl) ho (I.freeC x c e)
  · obtain ⟨e, n, ne, nf, d⟩ := I.pin p hp
    have nch : p.1 ∉ ch := fun z => (hch p.1 z).2.2.2 p hp rfl
    exact ⟨keep p.1 p.2 ne nf nch e n, free p.1 p.2 nch e n, ne, nf, d⟩
/-- .. where the frame's own object is kept too -/
theorem Inv.un {t' : Nat} (I : Inv X pins σ H s) (u : Un X.fs [] H H' s.heap h') (hok : HOk X.prog X.w H' h') : Inv X pins σ H' { s with heap := h', toks := t' } := by
  obtain ⟨m, ⟨o, es, ep, ho, r⟩, _⟩ := id I.loc
  obtain ⟨sl, hL⟩ := u.any ho I.free (by simp)
  exact I.step (g' := s.gens) (d' := s.drawn) (ch := []) (fun _ z => nomatch z) (fun b o _ hb _ e n => u.keep b o e n hb (by simp)) (fun b o _ hb _ e n => u.slot b o e n hb (by simp)) (fun b o _ e n => u.free b o e n (by simp)) (fun b o _ e => u.there b o e (by simp)) u.tups u.frzs u.tbls (fun m' hm => by
    obtain ⟨o', es', ep', ho', r'⟩ := hm
    rw [ho] at ho'; cases ho'
    exact ⟨_, es', ep', hL, r'⟩) hok I.bare
/-- behind a call (or a comprehension's block): the slots of this frame may have changed too, the records at ch may have turned -/
theorem Inv.call {g' : Array GenState} {t' : Nat} {d' : Drawn} {ch : List Addr} (I : Inv X pins σ H s) (u : Un (frs X.stack) ch H H' s.heap h') (hok : HOk X.prog X.w H' h') (hg : AllBare g')
    (hch : ∀ b ∈ ch, (b ∈ X.ex ∨ X.s_0.heap.objs.size ≤ b) ∧ b ≠ X.env.locals ∧ (∀ x c, X.env.cells.lookup x = some c → c ≠ b) ∧ ∀ p ∈ X.pn ++ pins, p.1 ≠ b) :
    Inv X pins σ H' { s with heap := h', gens := g', drawn := d', toks := t' } := by
  obtain ⟨m, ⟨o, es, ep, ho, r⟩, _⟩ := id I.loc
  obtain ⟨sl, hL⟩ := u.any ho I.free fun z => (hch _ z).2.1 rfl
  exact I.step (ch := ch) hch (fun b o hL hb hc e n => u.keep b o e n (fun z => (List.mem_cons.mp (I.stkSub b z)).elim hL hb) hc) (fun b o _ _ hc e n => u.any e n hc) (fun b o hc e n => u.free b o e n hc) (fun b o hc e => u.there b o e hc) u.tups u.frzs u.tbls (fun m' hm => by
    obtain ⟨o', es', ep', ho', r'⟩ := hm
    rw [ho] at ho'; cases ho'
    exact ⟨_, es', ep', hL, r'⟩) hok hg
/-- an untracked record of ours (an iterator) has turned -/
theorem Inv.turned {t' : Nat} {it : Addr} (I : Inv X pins σ H s) (k : ∀ b o, b ≠ it → s.heap.get? b = some o → h'.get? b = some o) (hn : H it = none) (hL : it ≠ X.env.locals)
    (h1 : it ∈ X.ex ∨ X.s_0.heap.objs.size ≤ it) (h2 : ∀ x c, X.env.cells.lookup x = some c → c ≠ it) (h3 : ∀ p ∈ X.pn ++ pins, p.1 ≠ it) : Inv X pins σ H { s with heap := h', toks := t' } := by
  have nit : ∀ b u, H b = some u → b ≠ it := fun b u e z => by rw [z, hn] at e; cases e
  refine I.step (g' := s.gens) (d' := s.drawn) (ch := [it]) (fun b hb => ?_) (fun b o _ _ hc e _ => k b o (fun z => hc (by simp [z])) e) (fun b o _ _ hc e _ => ⟨o.slots, k b o (fun z => hc (by simp [z])) e⟩) (fun _ _ _ _ n => n)
    (fun b o hc e => ⟨o, k b o (fun z => hc (by simp [z])) e⟩) (fun _ _ e => e) (fun _ _ _ e => e) (fun b ps e => ⟨#[], by rw [e]; simp⟩) (fun m hm => ?_) (fun b u e => ?_) I.bare
  · have e : b = it := by simpa using hb
    subst e
    exact ⟨h1, hL, h2, h3⟩
  · obtain ⟨o, es, ep, ho, r⟩ := hm
    exact ⟨o, es, ep, k _ o (Ne.symm hL) ho, r⟩
  · refine (I.hok b u e).stay (fun c v hc q => k c v ?_ q) (fun _ q => q) fun _ _ q => q
    rcases hc with z | z
    · rw [z]; exact nit b u e
    · exact nit c _ z
theorem Inv.tok (I : Inv X pins σ H s) (t : Nat) : Inv X pins σ H { s with toks := t } := I.un (h' := s.heap) (t' := t) Un.refl I.hok
/-- all objects kept -/
theorem Inv.kept {t' : Nat} (I : Inv X pins σ H s) (k : ∀ b u, s.heap.get? b = some u → h'.get? b = some u) : Inv X pins σ H { s with heap := h', toks := t' } := I.un (Un.kept k) (I.hok.kept k)
/-- a new object laid and tracked -/
theorem Inv.laid {a : Addr} {o : HO} {t' : Nat} (I : Inv X pins σ H s) (k : ∀ b u, s.heap.get? b = some u → h'.get? b = some u) (hp : s.heap.objs.size ≤ a) (new : ObjOk X.prog X.w (upd H a o) h' a o) :
    Inv X pins σ (upd H a o) { s with heap := h', toks := t' } := I.un (Un.laid k hp (I.hok.fresh hp)) (I.hok.laid k hp new)
/-- an object written -/
theorem Inv.write {x e : Addr} {o : HO} {t' : Nat} (I : Inv X pins σ H s) (mu : Mut (H x)) (he : e = x ∨ H e = some (.own x)) (k : ∀ b u, b ≠ e → s.heap.get? b = some u → h'.get? b = some u) (heo : ∃ u, h'.get? e = some u)
    (new : ObjOk X.prog X.w (upd H x o) h' x o) : Inv X pins σ (upd H x o) { s with heap := h', toks := t' } := I.un (Un.write mu he k heo) (I.hok.write mu he k heo new)
/-- forgetting slots, pins -/
theorem Inv.weak {σ' : List (Option V)} (I : Inv X pins σ H s) (hl : σ'.length = σ.length) (w : ∀ (i : Nat) v, σ'[i]? = some (some v) → σ[i]? = some (some v)) : Inv X pins σ' H s :=
  ⟨I.ok, I.os, I.bare, I.base, let ⟨m, hn, hl'⟩ := I.loc; ⟨m, hn, fun i x v e1 e2 e3 => hl' i x v e1 (w i v e2) e3⟩, I.cell, I.free, I.freeC, I.pin, I.hok, hl.trans I.len⟩
theorem Inv.pins_of {pins' : List (Addr × Obj)} (I : Inv X pins σ H s) (h : ∀ p ∈ pins', s.heap.get? p.1 = some p.2 ∧ H p.1 = none ∧ p.1 ≠ X.env.locals ∧ p.1 ∉ X.fs ∧ ∀ v, p.2.data ≠ .cell v) : Inv X pins' σ H s :=
  ⟨I.ok, I.os, I.bare, I.base, I.loc, I.cell, I.free, I.freeC, fun p hp => (List.mem_append.mp hp).elim (fun z => I.pin p (List.mem_append_left _ z)) (h p), I.hok, I.len⟩

theorem nodup_ix {N : List Str} (hN : N.Nodup) {i j : Nat} {x : Str} (a : N[i]? = some x) (b : N[j]? = some x) : i = j := by
  obtain ⟨h1, e1⟩ := List.getElem?_eq_some_iff.mp a
  obtain ⟨h2, e2⟩ := List.getElem?_eq_some_iff.mp b
  exact (List.getElem_inj hN).mp (e1.trans e2.symm)

/-- a name is stored; what changed -/
theorem store_ok2 {M : Model} {A : Around} {E : Value → Shared → Prop} {i : Nat} {x : Str} {v : V} {u : Value} {Q : Unit → Shared → Prop} (I : Inv X pins σ H s) (hN : X.N.Nodup) (hi : X.N[i]? = some x) (hx : Loc X.env.scope x) (r : RelV v u)
    (h : ∀ s', Inv X pins (σ.set i (some v)) H s' → (∃ a, Heap.SameBut a s.heap s'.heap ∧ (a = X.env.locals ∨ X.env.cells.lookup x = some a)) → Q () s') (hf : X.fn x = true ∨ X.env.scope.names.lookup x = some .local := by first | exact .inl rfl | exact .inr rfl | assumption) : wpAny M A (storeName X.env x u) Q E s := by
  obtain ⟨m, hn, hl⟩ := id I.loc
  have hcls : (X.env.scope.kind == .class || (X.env.scope.kind == .module && X.env.locals != X.env.globals)) = false := by rw [I.ok.kind]; rfl
  have hiσ : i < σ.length := by rw [I.len]; exact (List.getElem?_eq_some_iff.mp hi).1
  have cne := I.cne
  have tracked : ∀ {a : Addr} {h' : Heap}, (∃ o, s.heap.get? a = some o ∧ H a = none) → Heap.SameBut a s.heap h' → HOk X.prog X.w H h' := fun {a h'} ha hs b ob e => by
    obtain ⟨_, _, hfree⟩ := ha
    refine (I.hok b ob e).stay (fun c w' hc q => (hs.2 c ?_).trans q) (fun _ q => q) fun _ _ q => q
    rintro rfl
    rcases hc with rfl | hc
    · rw [hfree] at e; cases e
    · rw [hfree] at hc; cases hc
  rcases hx with hk | hk
  · refine wpAny_storeName_local hk hn (fun h' hn' hs => ?_) hcls
    obtain ⟨oL, _, _, hoL, _⟩ := id hn
    refine h _ ⟨I.ok, I.os, I.bare, ⟨fun b o e n hb hx => ?_, fun b o e n hb hx => ?_, I.base.free, fun b o e hx => ?_, I.base.tups, I.base.frzs, I.base.tbls⟩, ⟨_, hn', fun j y v' e1 e2 e3 => ?_⟩, fun y c e => ?_, I.free, I.freeC, fun p hp => ?_, tracked ⟨oL, hoL, I.free⟩ hs, by simpa using I.len⟩ ⟨_, hs, .inl rfl⟩
    · exact (hs.2 b (Nat.ne_of_lt (Nat.lt_of_lt_of_le (Heap.lt_size e) I.ok.above))).trans (I.base.keep b o e n hb hx)
    · obtain ⟨sl, e1⟩ := I.base.slot b o e n hb hx
      exact ⟨sl, (hs.2 b (Nat.ne_of_lt (Nat.lt_of_lt_of_le (Heap.lt_size e) I.ok.above))).trans e1⟩
    · obtain ⟨o', e1⟩ := I.base.there b o e hx
      exact ⟨o', (hs.2 b (Nat.ne_of_lt (Nat.lt_of_lt_of_le (Heap.lt_size e) I.ok.above))).trans e1⟩
    · by_cases hj : j = i
      · subst hj
        rw [hi] at e1; cases e1
        rw [List.getElem?_set_self hiσ] at e2
        cases e2
        exact ⟨u, r, .inl ⟨hk, by simp⟩⟩
      · rw [List.getElem?_set_ne (Ne.symm hj)] at e2
        obtain ⟨u', r', q⟩ := hl j y v' e1 e2 e3
        refine ⟨u', r', ?_⟩
        rcases q with ⟨k, e⟩ | ⟨k, c, e, z⟩
        · refine .inl ⟨k, ?_⟩
          have : y ≠ x := fun e => hj (nodup_ix hN e1 (e ▸ hi))
          simp [this, e]
        · exact .inr ⟨k, c, e, z.sameBut hs (cne y c e)⟩
    · obtain ⟨w', z⟩ := I.cell y c e
      exact ⟨w', z.sameBut hs (cne y c e)⟩
    · obtain ⟨e, n, ne, nf, d⟩ := I.pin p hp
      exact ⟨(hs.2 p.1 ne).trans e, n, ne, nf, d⟩
  · have hfn : X.fn x = true := by
      rcases hf with z | z
      · exact z
      · rw [z] at hk; cases hk
    obtain ⟨c, hc⟩ := I.ok.has x (.inl hk)
    obtain ⟨w', z⟩ := I.cell x c hc
    refine wpAny_storeName_cell I.ok.kind hk hc z (fun h' hc' hs => ?_)
    obtain ⟨oc, hoc, hocd⟩ := id z
    refine h { s with heap := h' } ⟨I.ok, I.os, I.bare, ⟨fun b o e n hb hx => ?_, fun b o e n hb hx => ?_, I.base.free, fun b o e hx => ?_, I.base.tups, I.base.frzs, I.base.tbls⟩, ⟨m, hn.sameBut hs (Ne.symm (cne x c hc)), fun j y v' e1 e2 e3 => ?_⟩, fun y c' e => ?_, I.free, I.freeC, fun p hp => ?_, tracked ⟨oc, hoc, I.freeC x c hc⟩ hs, by simpa using I.len⟩ ⟨c, hs, .inr hc⟩
    · exact (hs.2 b (Nat.ne_of_lt (Nat.lt_of_lt_of_le (Heap.lt_size e) (I.ok.cab x c hfn hc)))).trans (I.base.keep b o e n hb hx)
    · obtain ⟨sl, e1⟩ := I.base.slot b o e n hb hx
      exact ⟨sl, (hs.2 b (Nat.ne_of_lt (Nat.lt_of_lt_of_le (Heap.lt_size e) (I.ok.cab x c hfn hc)))).trans e1⟩
    · obtain ⟨o', e1⟩ := I.base.there b o e hx
      exact ⟨o', (hs.2 b (Nat.ne_of_lt (Nat.lt_of_lt_of_le (Heap.lt_size e) (I.ok.cab x c hfn hc)))).trans e1⟩
    · by_cases hj : j = i
      · subst hj
        rw [hi] at e1; cases e1
        rw [List.getElem?_set_self hiσ] at e2
        cases e2
        exact ⟨u, r, .inr ⟨.inl hk, c, hc, hc'⟩⟩
      · rw [List.getElem?_set_ne (Ne.symm hj)] at e2
        obtain ⟨u', r', q⟩ := hl j y v' e1 e2 e3
        refine ⟨u', r', ?_⟩
        rcases q with q | ⟨k, c', e, z'⟩
        · exact .inl q
        · refine .inr ⟨k, c', e, z'.sameBut hs ?_⟩
          rintro rfl
          exact hj (nodup_ix hN e1 (I.ok.inj _ _ _ e hc ▸ hi))
    · by_cases hcc : c' = c
      · subst hcc; exact ⟨_, hc'⟩
      · obtain ⟨w2, z2⟩ := I.cell y c' e
        exact ⟨w2, z2.sameBut hs hcc⟩
    · obtain ⟨e, n, ne, nf, d⟩ := I.pin p hp
      refine ⟨(hs.2 p.1 ?_).trans e, n, ne, nf, d⟩
      intro q
      rw [q, hoc] at e
      have q' : oc = p.2 := Option.some.inj e
      exact d w' (by rw [← q']; exact hocd)
theorem store_ok {M : Model} {A : Around} {E : Value → Shared → Prop} {i : Nat} {x : Str} {v : V} {u : Value} {Q : Unit → Shared → Prop} (I : Inv X pins σ H s) (hN : X.N.Nodup) (hi : X.N[i]? = some x) (hx : Loc X.env.scope x) (r : RelV v u)
    (h : ∀ s', Inv X pins (σ.set i (some v)) H s' → Q () s') (hf : X.fn x = true ∨ X.env.scope.names.lookup x = some .local := by first | exact .inl rfl | exact .inr rfl | assumption) : wpAny M A (storeName X.env x u) Q E s :=
  store_ok2 I hN hi hx r (fun s' I' _ => h s' I') hf
/-- behind a call or a block, the state as it is -/
theorem Inv.call' {s' : Shared} {ch : List Addr} (I : Inv X pins σ H s) (ho : s'.os = s.os) (u : Un (frs X.stack) ch H H' s.heap s'.heap) (hok : HOk X.prog X.w H' s'.heap) (hg : AllBare s'.gens)
    (hch : ∀ b ∈ ch, (b ∈ X.ex ∨ X.s_0.heap.objs.size ≤ b) ∧ b ≠ X.env.locals ∧ (∀ x c, X.env.cells.lookup x = some c → c ≠ b) ∧ ∀ p ∈ X.pn ++ pins, p.1 ≠ b) : Inv X pins σ H' s' := by
  obtain ⟨h', g', d', t', o'⟩ := s'
  have e : o' = s.os := ho
  subst e
  exact I.call (g' := g') (t' := t') (d' := d') u hok hg hch
end

/-! ### the judgements -/
/-- an exception: its class, its own dict's address (where it has one), the abstract heap behind it -/
abbrev XK := Value → Option Addr → Hp → Prop
abbrev St := List (Option V)
abbrev VK := V → Hp → Prop
/-- an expression's reading; a test's; an argument list's -/
abbrev TE := St → Hp → VK → Prop
abbrev TT := St → Hp → (Bool → Hp → Prop) → Prop
abbrev TA := St → Hp → (List V → Hp → Prop) → Prop
/-- what is wanted behind a statement -/
structure Ends where
  nx : St → Hp → Prop
  rt : VK
  bk : St → Hp → Prop := fun _ _ => False
  ct : St → Hp → Prop := fun _ _ => False
abbrev TS := Ends → St → Hp → Prop

def EP (X : Cx) (pins : List (Addr × Obj)) (σ : St) (Q : VK) (u : Value) (s' : Shared) : Prop := ∃ v H', Inv X pins σ H' s' ∧ RelV v u ∧ Q v H'
def TP (X : Cx) (pins : List (Addr × Obj)) (σ : St) (Q : Bool → Hp → Prop) (b : Bool) (s' : Shared) : Prop := ∃ H', Inv X pins σ H' s' ∧ Q b H'
def AP (X : Cx) (pins : List (Addr × Obj)) (σ : St) (Q : List V → Hp → Prop) (us : List Value) (s' : Shared) : Prop := ∃ vs H', Inv X pins σ H' s' ∧ Vals vs us ∧ Q vs H'
def SP (X : Cx) (pins : List (Addr × Obj)) (D : Ends) (f : Flow) (s' : Shared) : Prop :=
  match f with
  | .next => ∃ σ' H', Inv X pins σ' H' s' ∧ D.nx σ' H'
  | .brk => ∃ σ' H', Inv X pins σ' H' s' ∧ D.bk σ' H'
  | .cont => ∃ σ' H', Inv X pins σ' H' s' ∧ D.ct σ' H'
  | .ret u => ∃ v σ' H', Inv X pins σ' H' s' ∧ RelV v u ∧ D.rt v H'

def PE (X : Cx) (e : Expr) (t : TE) : Prop :=
  ∀ (pins : List (Addr × Obj)) (s : Shared) (σ : St) (H : Hp) (Q : VK), Inv X pins σ H s → t σ H Q → wpAny (model X.prog X.w) X.A (eval e X.env) (EP X pins σ Q) X.xe s
def PT (X : Cx) (e : Expr) (t : TT) : Prop :=
  ∀ (pins : List (Addr × Obj)) (s : Shared) (σ : St) (H : Hp) (Q : Bool → Hp → Prop), Inv X pins σ H s → t σ H Q → wpAny (model X.prog X.w) X.A (isTrue e X.env (eval e X.env)) (TP X pins σ Q) X.xe s
/-- a test whatever its 'whole' is (and, or) -/
def PW (X : Cx) (e : Expr) (t : TT) : Prop :=
  ∀ (whole : Sem Value) (pins : List (Addr × Obj)) (s : Shared) (σ : St) (H : Hp) (Q : Bool → Hp → Prop), Inv X pins σ H s → t σ H Q → wpAny (model X.prog X.w) X.A (isTrue e X.env whole) (TP X pins σ Q) X.xe s
theorem PW.pt {X : Cx} {e : Expr} {t : TT} (h : PW X e t) : PT X e t := h _
/-- an argument list (no star), from the left -/
def PA (X : Cx) (es : List Expr) (t : TA) : Prop :=
  ∀ (pos : Pos) (pins : List (Addr × Obj)) (s : Shared) (σ : St) (H : Hp) (Q : List V → Hp → Prop), Inv X pins σ H s → t σ H Q → wpAny (model X.prog X.w) X.A (spliced (backTo pos (starEach es X.env))) (AP X pins σ Q) X.xe s
def PS (X : Cx) (st : Stmt) (t : TS) : Prop :=
  ∀ (pins : List (Addr × Obj)) (s : Shared) (σ : St) (H : Hp) (D : Ends), Inv X pins σ H s → t D σ H → wpAny (model X.prog X.w) X.A (exec st X.env) (SP X pins D) X.xe s
def PSs (X : Cx) (st : List Stmt) (t : TS) : Prop :=
  ∀ (pins : List (Addr × Obj)) (s : Shared) (σ : St) (H : Hp) (D : Ends), Inv X pins σ H s → t D σ H → wpAny (model X.prog X.w) X.A (execs st X.env) (SP X pins D) X.xe s
/-- weaken the end -/
theorem thn {α : Type} {t : Sem α} {Q Q' : α → Shared → Prop} {M : Model} {A : Around} {E : Value → Shared → Prop} {s : Shared} (h : wpAny M A t Q E s) (hQ : ∀ a s, Q a s → Q' a s) : wpAny M A t Q' E s := wpAny_mono h hQ fun _ _ x => x
end L2

namespace L2
open PySem PySem.Spec PyProof.Rows
section
variable {X : Cx}

/-! ### names and constants -/
def tVar (i : Nat) : TE := fun σ H Q => ∃ v, σ[i]? = some (some v) ∧ Q v H
def tC (v : V) : TE := fun _ H Q => Q v H
theorem pe_var {i : Nat} {x : Str} {pos : Pos} (hN : X.N[i]? = some x) (hv : Vis X.env.scope x) (hd : (x == ("__debug__" : Str)) = false := by decide) (hcd : (x == ("__classdict__" : Str)) = false := by decide) : PE X (.Name x pos) (tVar i) := by
  intro pins s σ H Q I h
  obtain ⟨v, e, h⟩ := h
  obtain ⟨m, hn, hl⟩ := I.loc
  obtain ⟨u, r, l⟩ := hl i x v hN e hv
  have fin : EP X pins σ Q u s := ⟨v, H, I, r, h⟩
  rcases l with ⟨hk, hm⟩ | ⟨hk, c, hc, hcell⟩
  · exact wpAny_Name (wpAny_loadName_local I.ok.kind hk hn hm fin) hd
  · rcases hk with hk | hk
    · exact wpAny_Name (wpAny_loadName_cell I.ok.kind hk hc hcell fin) hd
    · exact wpAny_Name (wpAny_loadName_free I.ok.kind hk hc hcell fin hcd) hd
theorem pe_int {i j pos} : PE X (.Constant (.int i) j pos) (tC (.int i)) := fun _ _ _ H _ I h => wpAny_Constant_int ⟨.int i, H, I.tok _, ⟨_, rfl⟩, h⟩
theorem pe_bl {b j pos} : PE X (.Constant (.bool b) j pos) (tC (.bl b)) := fun _ _ _ H _ I h => Constant_bool ⟨.bl b, H, I, rfl, h⟩
theorem pe_non {j pos} : PE X (.Constant .none j pos) (tC .non) := fun _ _ _ H _ I h => Constant_none ⟨.non, H, I, rfl, h⟩
theorem pe_str {x j pos} : PE X (.Constant (.str x) j pos) (tC (.str x)) := fun _ _ _ H _ I h => Calls.Constant_str ⟨.str x, H, I.tok _, ⟨_, rfl⟩, h⟩

/-- a global name of the def -/
def Gl (X : Cx) (x : Str) : Prop := X.env.kindOf x = some .globalImplicit
theorem ld_glob {E : Value → Shared → Prop} {pins : List (Addr × Obj)} {s : Shared} {σ : St} {H : Hp} {x : Str} {u : Value} {pos : Pos} {Q : Value → Shared → Prop} (I : Inv X pins σ H s) (hg : Gl X x) (hm : X.mg x = some u) (h : Q u s)
    (hd : (x == ("__debug__" : Str)) = false := by decide) : wpAny (model X.prog X.w) X.A (eval (.Name x pos) X.env) Q E s :=
  Calls.Name_function_global I.ok.kind hg (Calls.loadGlobal_global (by rw [I.ok.glob]; exact I.mod.glob.keeps I.bk) hm h) hd
theorem ld_blt {E : Value → Shared → Prop} {pins : List (Addr × Obj)} {s : Shared} {σ : St} {H : Hp} {x : Str} {u : Value} {pos : Pos} {Q : Value → Shared → Prop} (I : Inv X pins σ H s) (hg : Gl X x) (hm : X.mg x = none) (hv : bootBuiltins x = some u) (h : Q u s)
    (hn : x ≠ "__name__" := by decide) (hd : (x == ("__debug__" : Str)) = false := by decide) : wpAny (model X.prog X.w) X.A (eval (.Name x pos) X.env) Q E s := by
  obtain ⟨mb, h1, h2⟩ := I.mod.blt
  exact Calls.Name_function_global I.ok.kind hg (Calls.loadGlobal_builtin (by rw [I.ok.glob]; exact I.mod.glob.keeps I.bk) hm (by rw [I.ok.blt]; exact h1.keeps I.bk) ((h2 x hn).trans hv) h) hd
/-- a module's constant, a class, a function, as a value -/
theorem pe_glob {x : Str} {v : V} {u : Value} {pos : Pos} (hg : Gl X x) (hm : X.mg x = some u) (r : RelV v u) (hd : (x == ("__debug__" : Str)) = false := by decide) : PE X (.Name x pos) (tC v) :=
  fun _ _ _ H _ I h => ld_glob I hg hm ⟨v, H, I, r, h⟩ hd
theorem pe_bltn {x : Str} {v : V} {u : Value} {pos : Pos} (hg : Gl X x) (hm : X.mg x = none) (hv : bootBuiltins x = some u) (r : RelV v u) (hn : x ≠ "__name__" := by decide) (hd : (x == ("__debug__" : Str)) = false := by decide) : PE X (.Name x pos) (tC v) :=
  fun _ _ _ H _ I h => ld_blt I hg hm hv ⟨v, H, I, r, h⟩ hn hd

/-! ### arithmetic -/
/-- two ints -/
def t2I (ta tb : TE) (k : Int → Int → Hp → Prop) : St → Hp → Prop := fun σ H => ta σ H fun x H1 => tb σ H1 fun y H2 => ∃ i j, x = .int i ∧ y = .int j ∧ k i j H2
def tAdd (ta tb : TE) : TE := fun σ H Q => t2I ta tb (fun i j H2 => Q (.int (i + j)) H2) σ H
def tSub (ta tb : TE) : TE := fun σ H Q => t2I ta tb (fun i j H2 => Q (.int (i - j)) H2) σ H
/-- the left factor below 2^64 -/
def tMul (ta tb : TE) : TE := fun σ H Q => t2I ta tb (fun i j H2 => (-(2 ^ 64) < i ∧ i < 2 ^ 64) ∧ Q (.int (i * j)) H2) σ H
variable {a b : Expr} {ta tb : TE} {pos : Pos}
/-! ### comparisons -/
def PC (X : Cx) (op : CmpOp) (a b : Expr) (t : TE) : Prop :=
  ∀ (pins : List (Addr × Obj)) (s : Shared) (σ : St) (H : Hp) (Q : VK), Inv X pins σ H s → t σ H Q →
    wpAny (model X.prog X.w) X.A (eval a X.env) (fun v s₁ => wpAny (model X.prog X.w) X.A (eval b X.env) (fun u s₂ => wpAny (model X.prog X.w) X.A (compareOp op v u) (EP X pins σ Q) X.xe s₂) X.xe s₁) X.xe s
def tCmp (p : Int → Int → Bool) (ta tb : TE) : TE := fun σ H Q => t2I ta tb (fun i j H2 => Q (.bl (p i j)) H2) σ H
abbrev tLt : TE → TE → TE := tCmp fun i j => decide (i < j)
abbrev tLe : TE → TE → TE := tCmp fun i j => decide (i ≤ j)
abbrev tGt : TE → TE → TE := tCmp fun i j => decide (j < i)
abbrev tGe : TE → TE → TE := tCmp fun i j => decide (j ≤ i)
abbrev tEqI : TE → TE → TE := tCmp fun i j => decide (i = j)
abbrev tNeI : TE → TE → TE := tCmp fun i j => !decide (i = j)
/-- is None -/
def tIsN (ta : TE) : TE := fun σ H Q => ta σ H fun x H1 => Q (.bl (decide (x = .non))) H1
def tNotN (ta : TE) : TE := fun σ H Q => ta σ H fun x H1 => Q (.bl (!decide (x = .non))) H1
/-- a comparison as a value, as a test -/
def tB (t : TE) : TT := fun σ H Q => t σ H fun x H1 => ∃ c, x = .bl c ∧ Q c H1
/-- an expression whose value is a bool, as a test -/
theorem pt_val {e : Expr} {t : TE} (h : PE X e t) (he : ∀ whole, isTrue e X.env whole = (do let v ← whole; standAt e.pos; holding [v] (truthy v)) := by intro _; rfl) : PT X e (tB t) := by
  intro pins s σ H Q I hw
  refine isTrue_plain (thn (h pins s σ H _ I hw) fun v s1 ⟨x, H1, I1, r1, q1⟩ => ?_) (he _)
  obtain ⟨d, rfl, q⟩ := q1
  cases r1
  exact wpAny_truthy_bool ⟨H1, I1, q⟩

/-! ### and, or, not -/
variable {tA tB' : TT} {rest : List Expr}
def tAnd (t u : TT) : TT := fun σ H Q => t σ H fun c H1 => if c = true then u σ H1 Q else Q false H1
def tOr (t u : TT) : TT := fun σ H Q => t σ H fun c H1 => if c = true then Q true H1 else u σ H1 Q
def tNot (t : TT) : TT := fun σ H Q => t σ H fun c H1 => Q (!c) H1
theorem pw_and1 (ha : PT X a tA) : PW X (.BoolOp .And [a] pos) tA := by
  intro wh pins s σ H Q I h
  refine isTrue_and (thn (ha pins s σ H Q I h) fun c s1 e => ?_)
  cases c with
  | true => exact isTrue_and_nil e
  | false => exact e
theorem pw_or1 (ha : PT X a tA) : PW X (.BoolOp .Or [a] pos) tA := by
  intro wh pins s σ H Q I h
  refine isTrue_or (thn (ha pins s σ H Q I h) fun c s1 e => ?_)
  cases c with
  | false => exact isTrue_or_nil e
  | true => exact e
theorem pw_and (ha : PT X a tA) (hb : PW X (.BoolOp .And (b :: rest) pos) tB') : PW X (.BoolOp .And (a :: b :: rest) pos) (tAnd tA tB') := by
  intro wh pins s σ H Q I h
  refine isTrue_and (thn (ha pins s σ H _ I h) fun c s1 ⟨H1, I1, q1⟩ => ?_)
  cases c with
  | true => exact hb wh pins s1 σ H1 Q I1 q1
  | false => exact ⟨H1, I1, q1⟩
theorem pw_or (ha : PT X a tA) (hb : PW X (.BoolOp .Or (b :: rest) pos) tB') : PW X (.BoolOp .Or (a :: b :: rest) pos) (tOr tA tB') := by
  intro wh pins s σ H Q I h
  refine isTrue_or (thn (ha pins s σ H _ I h) fun c s1 ⟨H1, I1, q1⟩ => ?_)
  cases c with
  | true => exact ⟨H1, I1, q1⟩
  | false => exact hb wh pins s1 σ H1 Q I1 q1
theorem pt_not (ha : PT X a tA) : PT X (.UnaryOp .Not a pos) (tNot tA) := by
  intro pins s σ H Q I h
  exact isTrue_not (ha pins s σ H (fun c H1 => Q (!c) H1) I h)
/-- .. as values (bools) -/
def tAndV (ta tb : TE) : TE := fun σ H Q => ta σ H fun x H1 => ∃ c, x = .bl c ∧ if c = true then tb σ H1 Q else Q (.bl false) H1
def tOrV (ta tb : TE) : TE := fun σ H Q => ta σ H fun x H1 => ∃ c, x = .bl c ∧ if c = true then Q (.bl true) H1 else tb σ H1 Q
def tNotV (ta : TE) : TE := fun σ H Q => ta σ H fun x H1 => ∃ c, x = .bl c ∧ Q (.bl (!c)) H1
theorem pe_one {op} {t : TE} (h : PE X a t) : PE X (.BoolOp op [a] pos) t := fun pins s σ H Q I hw => BoolOp_one (h pins s σ H Q I hw)
theorem pe_and (ha : PE X a ta) (hb : PE X (.BoolOp .And (b :: rest) pos) tb) : PE X (.BoolOp .And (a :: b :: rest) pos) (tAndV ta tb) := by
  intro pins s σ H Q I h
  refine BoolOp_and (thn (ha pins s σ H _ I h) fun v s1 ⟨x, H1, I1, r1, q1⟩ => ?_)
  obtain ⟨c, rfl, q1⟩ := q1
  cases r1
  refine wpAny_truthy_bool ?_
  cases c with
  | true => exact hb pins s1 σ H1 Q I1 q1
  | false => exact ⟨.bl false, H1, I1, rfl, q1⟩
theorem pe_not (ha : PE X a ta) : PE X (.UnaryOp .Not a pos) (tNotV ta) := by
  intro pins s σ H Q I h
  refine UnaryOp_ (thn (ha pins s σ H _ I h) fun v s1 ⟨x, H1, I1, r1, q1⟩ => ?_)
  obtain ⟨c, rfl, q1⟩ := q1
  cases r1
  exact not_of (wpAny_truthy_bool ⟨.bl (!c), H1, I1, rfl, q1⟩)
/-- a if t else b -/
def tIf (t : TT) (ta tb : TE) : TE := fun σ H Q => t σ H fun c H1 => if c = true then ta σ H1 Q else tb σ H1 Q
theorem pe_ifExp {c : Expr} (hc : PT X c tA) (ha : PE X a ta) (hb : PE X b tb) : PE X (.IfExp c a b pos) (tIf tA ta tb) := by
  intro pins s σ H Q I h
  refine wpAny_IfExp (thn (hc pins s σ H _ I h) fun d s1 ⟨H1, I1, q1⟩ => ?_)
  cases d with
  | true => exact ha pins s1 σ H1 Q I1 q1
  | false => exact hb pins s1 σ H1 Q I1 q1
end
end L2

namespace L2
open PySem PySem.Spec PyProof.Rows

/-! ### a list, a tuple that is read: tracked, frozen, or an object of the module -/
def SqL (K : PySem.W.Frag) (H : Hp) (a : Addr) (xs : List V) : Prop :=
  Rd H a (.lst xs) ∨
    ∃ (o : Obj) (its : Array Value) (n : Nat), K.lookup a = some o ∧ o.cls = .type "list" ∧ o.dict = none ∧ o.data = .seq its n ∧ its.size ≤ sizeLine ∧ Vals xs its.toList
def SqT (K : PySem.W.Frag) (H : Hp) (a : Addr) (xs : List V) : Prop :=
  Rd H a (.tup xs) ∨
    ∃ (o : Obj) (its : Array Value) (n : Nat), K.lookup a = some o ∧ o.cls = .type "tuple" ∧ o.data = .seq its n ∧ its.size ≤ sizeLine ∧ Vals xs its.toList
def absV : Value → Option V
  | .none => some .non
  | .bool b => some (.bl b)
  | .int i _ => some (.int i)
  | .str x _ => some (.str x)
  | .bytes b _ => some (.byt b)
  | .float b _ => some (.flt b)
  | .ref a => some (.ref a)
  | .type n => some (.ty n)
  | _ => none
theorem RelV.abs {x : V} {u : Value} (r : RelV x u) : absV u = some x := by
  cases x with
  | non => cases r; rfl
  | bl _ => cases r; rfl
  | int _ => obtain ⟨t, rfl⟩ := r; rfl
  | str _ => obtain ⟨t, rfl⟩ := r; rfl
  | byt _ => obtain ⟨t, rfl⟩ := r; rfl
  | flt _ => obtain ⟨t, rfl⟩ := r; rfl
  | ref _ => cases r; rfl
  | ty _ => cases r; rfl
theorem RelV.inj {x y : V} {u : Value} (r : RelV x u) (q : RelV y u) : x = y := Option.some.inj (r.abs.symm.trans q.abs)
theorem Vals.inj : ∀ {xs ys : List V} {us : List Value}, Vals xs us → Vals ys us → xs = ys
  | _, _, _, .nil, .nil => rfl
  | _, _, _, .cons r t, .cons r' t' => by rw [r.inj r', Vals.inj t t']
section
variable {X : Cx} {pins : List (Addr × Obj)} {σ : St} {H : Hp} {s : Shared} {a : Addr} {xs ys : List V}
theorem SqL.of {K : PySem.W.Frag} (h : H a = some (.lst xs)) : SqL K H a xs := .inl (.inl h)
theorem SqT.of {K : PySem.W.Frag} (h : H a = some (.tup xs)) : SqT K H a xs := .inl (.inl h)
theorem Inv.list (I : Inv X pins σ H s) (h : SqL X.K H a xs) : ∃ its : List Value, Vals xs its ∧ PlainL s.heap a its.toArray ∧ xs.length ≤ sizeLine := by
  rcases h with h | ⟨o, its, n, hk, hc, hd, hs, hz, r⟩
  · obtain ⟨z, its, n, r, e⟩ := h.ok I.hok
    exact ⟨its, r, ⟨_, n, e, rfl, rfl, rfl⟩, z⟩
  · refine ⟨its.toList, r, ⟨o, n, I.kIn a o hk, hc, hd, by simpa using hs⟩, ?_⟩
    have e := r.length
    simp only [Array.length_toList] at e
    omega
theorem Inv.tuple (I : Inv X pins σ H s) (h : SqT X.K H a xs) : ∃ its : List Value, Vals xs its ∧ IsTup s.heap a its.toArray ∧ xs.length ≤ sizeLine := by
  rcases h with h | ⟨o, its, n, hk, hc, hs, hz, r⟩
  · obtain ⟨z, its, r, p⟩ := h.ok I.hok
    exact ⟨its, r, p, z⟩
  · refine ⟨its.toList, r, ⟨o, I.kIn a o hk, hc, n, by simpa using hs⟩, ?_⟩
    have e := r.length
    simp only [Array.length_toList] at e
    omega
theorem Inv.list_inj (I : Inv X pins σ H s) (h : SqL X.K H a xs) (h' : SqL X.K H a ys) : xs = ys := by
  obtain ⟨its, r, ⟨o, n, e, _, _, d⟩, _⟩ := I.list h
  obtain ⟨its', r', ⟨o', n', e', _, _, d'⟩, _⟩ := I.list h'
  rw [e] at e'; cases e'
  rw [d] at d'
  injection d' with d1 _
  have : its = its' := by simpa using congrArg Array.toList d1
  subst this
  exact r.inj r'
end

/-! ### another wish about exceptions -/
abbrev Cx.wish (X : Cx) (E : Value → Shared → Prop) : Cx := { X with xe := E }
/-- no exception leaves -/
abbrev Cx.nox (X : Cx) : Cx := X.wish fun _ _ => False
theorem Cx.Ok.wish {X : Cx} (ok : X.Ok) (E : Value → Shared → Prop) : (X.wish E).Ok :=
  ⟨ok.mod, ok.kind, ok.glob, ok.blt, ok.above, ok.inj, ok.has, ok.cab, ok.hd, ok.frames, ok.stk, ok.exf, ok.bs, ok.bsz, ok.noex, ok.exfs, ok.funs, ok.frf⟩
theorem Cx.Ok.unwish {X : Cx} {E : Value → Shared → Prop} (ok : (X.wish E).Ok) : X.Ok :=
  ⟨ok.mod, ok.kind, ok.glob, ok.blt, ok.above, ok.inj, ok.has, ok.cab, ok.hd, ok.frames, ok.stk, ok.exf, ok.bs, ok.bsz, ok.noex, ok.exfs, ok.funs, ok.frf⟩
section
variable {X : Cx} {pins : List (Addr × Obj)} {σ : St} {H : Hp} {s : Shared} {E : Value → Shared → Prop}
theorem Inv.wish (I : Inv X pins σ H s) (E : Value → Shared → Prop) : Inv (X.wish E) pins σ H s := ⟨I.ok.wish E, I.os, I.bare, I.base, I.loc, I.cell, I.free, I.freeC, I.pin, I.hok, I.len⟩
theorem Inv.unwish (I : Inv (X.wish E) pins σ H s) : Inv X pins σ H s := ⟨I.ok.unwish, I.os, I.bare, I.base, I.loc, I.cell, I.free, I.freeC, I.pin, I.hok, I.len⟩
theorem SP.unwish {D : Ends} {f : Flow} {s' : Shared} (h : SP (X.wish E) pins D f s') : SP X pins D f s' := by
  cases f with
  | next => obtain ⟨σ', H', I, q⟩ := h; exact ⟨σ', H', I.unwish, q⟩
  | brk => obtain ⟨σ', H', I, q⟩ := h; exact ⟨σ', H', I.unwish, q⟩
  | cont => obtain ⟨σ', H', I, q⟩ := h; exact ⟨σ', H', I.unwish, q⟩
  | ret u => obtain ⟨v, σ', H', I, r, q⟩ := h; exact ⟨v, σ', H', I.unwish, r, q⟩
theorem PSs.nox {st : List Stmt} {t : TS} (h : PSs X.nox st t) : PSs X st t := fun pins s σ H D I hw =>
  wpAny_mono (h pins s σ H D (I.wish _) hw) (fun _ _ q => q.unwish) fun _ _ z => False.elim z
end

/-! ### blocks and small statements -/
section
variable {X : Cx} {st : Stmt} {rest : List Stmt} {t u : TS} {e : Expr} {te : TE} {pos : Pos}
def tNext : TS := fun D σ H => D.nx σ H
def tSeq (t u : TS) : TS := fun D σ H => t { D with nx := u D } σ H
theorem pss_nil : PSs X [] tNext := fun _ _ σ H _ I h => wpAny_execs_nil ⟨σ, H, I, h⟩
theorem pss_cons (h1 : PS X st t) (h2 : PSs X rest u) : PSs X (st :: rest) (tSeq t u) := by
  intro pins s σ H D I h
  refine wpAny_execs_cons (thn (h1 pins s σ H { D with nx := u D } I h) fun f s1 q => ?_)
  cases f with
  | next =>
    obtain ⟨σ', H', I', q⟩ := q
    exact h2 pins s1 σ' H' D I' q
  | ret v => exact q
  | brk => exact q
  | cont => exact q
theorem pss_one (h1 : PS X st t) : PSs X [st] t := by
  intro pins s σ H D I h
  refine wpAny_execs_cons (thn (h1 pins s σ H D I h) fun f s1 q => ?_)
  cases f with
  | next => exact wpAny_execs_nil q
  | ret v => exact q
  | brk => exact q
  | cont => exact q
def tBreak : TS := fun D σ H => D.bk σ H
def tCont : TS := fun D σ H => D.ct σ H
/-- in a def's body nothing is shown -/
theorem Inv.quiet {pins : List (Addr × Obj)} {σ : St} {H : Hp} {s : Shared} (I : Inv X pins σ H s) : interactive X.env = false := by simp [interactive, I.ok.kind]
/-- an expression whose value is dropped -/
def tDrop (te : TE) : TS := fun D σ H => te σ H fun _ H1 => D.nx σ H1
theorem ps_expr (he : PE X e te) (hs : swapsWith e none pos.line X.env = pure false := by rfl) : PS X (.Expr e pos) (tDrop te) := by
  intro pins s σ H D I h
  exact wpAny_Expr_any (thn (he pins s σ H _ I h) fun v s1 ⟨x, H1, I1, r1, q1⟩ => ⟨σ, H1, I1, q1⟩) I.quiet hs
def tRet (te : TE) : TS := fun D σ H => te σ H D.rt
theorem ps_ret (he : PE X e te) : PS X (.Return (some e) pos) (tRet te) := by
  intro pins s σ H D I h
  exact wpAny_Return_some (thn (he pins s σ H _ I h) fun v s1 ⟨x, H1, I1, r1, q1⟩ => ⟨x, σ, H1, I1, r1, q1⟩)
def tRetN : TS := fun D _ H => D.rt .non H
def tIfS (c : TT) (t u : TS) : TS := fun D σ H => c σ H fun b H1 => if b = true then t D σ H1 else u D σ H1
theorem ps_if {c : Expr} {a b : List Stmt} {tc : TT} (hc : PT X c tc) (ha : PSs X a t) (hb : PSs X b u) : PS X (.If c a b pos) (tIfS tc t u) := by
  intro pins s σ H D I h
  refine wpAny_If (thn (hc pins s σ H _ I h) fun d s1 ⟨H1, I1, q1⟩ => ?_)
  cases d with
  | true => exact ha pins s1 σ H1 D I1 q1
  | false => exact hb pins s1 σ H1 D I1 q1
/-- code that the proof never comes to -/
def tNever : TS := fun _ _ _ => False
theorem ps_never : PS X st tNever := fun _ _ _ _ _ _ h => h.elim
end

/-! ### targets -/
abbrev TG := V → St → Hp → (St → Hp → Prop) → Prop
abbrev TGs := List V → St → Hp → (St → Hp → Prop) → Prop
def PG (X : Cx) (target : Expr) (t : TG) : Prop :=
  ∀ (pins : List (Addr × Obj)) (s : Shared) (σ : St) (H : Hp) (v : V) (u : Value) (Q : St → Hp → Prop), Inv X pins σ H s → RelV v u → t v σ H Q →
    wpAny (model X.prog X.w) X.A (assign target X.env u) (fun _ s' => ∃ σ' H', Inv X pins σ' H' s' ∧ Q σ' H') X.xe s
/-- several targets, one after another -/
def PGs (X : Cx) (ts : List Expr) (t : TGs) : Prop :=
  ∀ (pins : List (Addr × Obj)) (s : Shared) (σ : St) (H : Hp) (vs : List V) (us : List Value) (Q : St → Hp → Prop), Inv X pins σ H s → Vals vs us → t vs σ H Q →
    wpAny (model X.prog X.w) X.A (assignInOrder ((assignEach ts X.env).map (·.2)) us) (fun _ s' => ∃ σ' H', Inv X pins σ' H' s' ∧ Q σ' H') X.xe s
/-- o[i] = v, by values -/
abbrev TSet := V → V → V → Hp → (Hp → Prop) → Prop
def PSet (X : Cx) (t : TSet) : Prop :=
  ∀ (pins : List (Addr × Obj)) (s : Shared) (σ : St) (H : Hp) (o i v : V) (ov iv u : Value) (Q : Hp → Prop), Inv X pins σ H s → RelV o ov → RelV i iv → RelV v u → t o i v H Q →
    wpAny (model X.prog X.w) X.A (setItem ov iv u) (fun _ s' => ∃ H', Inv X pins σ H' s' ∧ Q H') X.xe s
/-- a op= b, by values -/
abbrev TIp := V → V → Hp → VK → Prop
def PIp (X : Cx) (op : Operator) (t : TIp) : Prop :=
  ∀ (pins : List (Addr × Obj)) (s : Shared) (σ : St) (H : Hp) (x y : V) (v u : Value) (Q : VK), Inv X pins σ H s → RelV x v → RelV y u → t x y H Q →
    wpAny (model X.prog X.w) X.A (inplaceOp op v u) (EP X pins σ Q) X.xe s
section
variable {X : Cx} {pos : Pos}
def gName (i : Nat) : TG := fun v σ H Q => Q (σ.set i (some v)) H
theorem pg_name {i : Nat} {x : Str} (hN : X.N.Nodup) (hi : X.N[i]? = some x) (hx : Loc X.env.scope x) (hf : X.fn x = true ∨ X.env.scope.names.lookup x = some .local := by first | exact .inl rfl | exact .inr rfl | assumption) : PG X (.Name x pos) (gName i) := by
  intro pins s σ H v u Q I r h
  exact wpAny_assign_Name (store_ok I hN hi hx r (fun s' I' => ⟨_, H, I', h⟩) hf)
def gNil : TGs := fun vs σ H Q => vs = [] ∧ Q σ H
def gCons (t : TG) (u : TGs) : TGs := fun vs σ H Q => ∃ v r, vs = v :: r ∧ t v σ H fun σ' H' => u r σ' H' Q
theorem pgs_nil : PGs X [] gNil := by
  intro pins s σ H vs us Q I r h
  obtain ⟨e, h⟩ := h
  subst e
  cases r
  exact assignInOrder_nil ⟨σ, H, I, h⟩
theorem pgs_cons {e : Expr} {es : List Expr} {t : TG} {u : TGs} (h1 : PG X e t) (h2 : PGs X es u)
    (hs : (assignEach (e :: es) X.env).map (·.2) = assign e X.env :: (assignEach es X.env).map (·.2) := by rfl) : PGs X (e :: es) (gCons t u) := by
  intro pins s σ H vs us Q I r h
  obtain ⟨v, vr, e1, h⟩ := h
  subst e1
  cases r with
  | cons r rr =>
    rw [hs]
    refine assignInOrder_cons (thn (h1 pins s σ H _ _ _ I r h) fun _ s1 ⟨σ1, H1, I1, q1⟩ => ?_)
    exact h2 pins s1 σ1 H1 _ _ Q I1 rr q1
/-- (a, b, ..) = a tuple of that length -/
def gTup (K : PySem.W.Frag) (n : Nat) (t : TGs) : TG := fun v σ H Q => ∃ a xs, v = .ref a ∧ SqT K H a xs ∧ xs.length = n ∧ t xs σ H Q
theorem pg_tup {es : List Expr} {k : Nat} {t : TGs} {n : Nat} (hc : X.calm = true) (h : PGs X es t)
    (hn : (assignEach es X.env).length = n := by rfl) (hst : (assignEach es X.env).findIdx? (·.1) = none := by rfl) : PG X (.Tuple es k pos) (gTup X.K n t) := by
  intro pins s σ H v u Q I r hw
  obtain ⟨a, xs, e1, hq, hl, hw⟩ := hw
  subst e1
  cases r
  obtain ⟨its, rv, ht, hz⟩ := I.tuple hq
  refine assign_Tuple_tuple (I.ok.hd hc) ht (by simp [hn, ← hl, rv.length]) hst fun h' hx => ?_
  have I1 : Inv X pins σ H { s with heap := h' } := I.kept (t' := s.toks) fun b o e => hx b o (Nat.ne_of_lt (Heap.lt_size e)) e
  exact h pins _ σ H xs _ Q I1 (by simpa using rv) hw
/-- o[i] = .. -/
def gSub (to ti : TE) (t : TSet) : TG := fun v σ H Q => to σ H fun o H1 => ti σ H1 fun i H2 => t o i v H2 fun H3 => Q σ H3
theorem pg_sub {o i : Expr} {to ti : TE} {t : TSet} (ho : PE X o to) (hi : PE X i ti) (hs : PSet X t)
    (ha : ∀ v, assign (.Subscript o i pos) X.env v = (do
      let ov ← holding [v] (eval o X.env)
      let iv ← holding [v, ov] (eval i X.env)
      standAt pos
      holding [v, ov, iv] (setItem ov iv v)
      release [v, ov, iv] []) := by intro _; rfl) : PG X (.Subscript o i pos) (gSub to ti t) := by
  intro pins s σ H v u Q I r h
  rw [ha]
  refine wpAny_bind (wpAny_holding (thn (ho pins s σ H _ I h) fun ov s1 ⟨x, H1, I1, r1, q1⟩ => ?_))
  refine wpAny_bind (wpAny_holding (thn (hi pins s1 σ H1 _ I1 q1) fun iv s2 ⟨y, H2, I2, r2, q2⟩ => ?_))
  refine wpAny_bind (wpAny_standAt (wpAny_bind (wpAny_holding (thn (hs pins s2 σ H2 x y v ov iv u _ I2 r1 r2 r q2) fun _ s3 ⟨H3, I3, q3⟩ => ?_))))
  exact wpAny_release ⟨σ, H3, I3, q3⟩
/-- target = value -/
def tAsg (te : TE) (g : TG) : TS := fun D σ H => te σ H fun x H1 => g x σ H1 D.nx
theorem ps_asg {tg e : Expr} {te : TE} {g : TG} (he : PE X e te) (hg : PG X tg g) (hs : swapsWithSole [tg] e pos.line X.env = pure false := by rfl) (hw : swappedStores [tg] e X.env = pure none := by rfl)
    (h1 : (assignEach [tg] X.env).map (·.2) = [assign tg X.env] := by rfl) : PS X (.Assign [tg] e pos) (tAsg te g) := by
  intro pins s σ H D I h
  refine wpAny_Assign_stores (thn (he pins s σ H _ I h) fun v s1 ⟨x, H1, I1, r1, q1⟩ => ?_) hs hw
  rw [h1]
  exact thn (hg pins s1 σ H1 x v _ I1 r1 q1) fun _ s2 q => q
/-- name = value -/
theorem ps_set {i : Nat} {x : Str} {e : Expr} {te : TE} {pos' : Pos} (hN : X.N.Nodup) (hi : X.N[i]? = some x) (hx : Loc X.env.scope x) (he : PE X e te) (hs : swapsWith e (some (.Name x pos')) pos.line X.env = pure false := by rfl) (hf : X.fn x = true ∨ X.env.scope.names.lookup x = some .local := by first | exact .inl rfl | exact .inr rfl | assumption) :
    PS X (.Assign [.Name x pos'] e pos) (tAsg te (gName i)) := by
  intro pins s σ H D I h
  refine wpAny_Assign_Name (thn (he pins s σ H _ I h) fun v s1 ⟨y, H1, I1, r1, q1⟩ => ?_) hs
  exact store_ok I1 hN hi hx r1 (fun s2 I2 => ⟨_, H1, I2, q1⟩) hf
/-- a, b = x, y with plain local names: stored from the right; the pair itself is not tracked (the opening rows as in PyProof/Rows/TupAssign.lean:23) -/
def tPar (i j : Nat) (ta : TA) : TS := fun D σ H => ta σ H fun vs H1 => ∃ v w, vs = [v, w] ∧ D.nx ((σ.set i (some v)).set j (some w)) H1
theorem ps_par {i j : Nat} {x y : Str} {a b : Expr} {ta : TA} {px py pt : Pos} {kt k2 pt2} (hc : X.calm = true) (hN : X.N.Nodup) (hi : X.N[i]? = some x) (hj : X.N[j]? = some y) (hij : i ≠ j)
    (hx : X.env.scope.names.lookup x = some .local) (hy : X.env.scope.names.lookup y = some .local) (ha : PA X [a, b] ta)
    (hw : swappedStores [.Tuple [.Name x px, .Name y py] kt pt] (.Tuple [a, b] k2 pt2) X.env = pure (some [x, y]))
    (hs : swapsWithSole [.Tuple [.Name x px, .Name y py] kt pt] (.Tuple [a, b] k2 pt2) pos.line X.env = pure false := by rfl) :
    PS X (.Assign [.Tuple [.Name x px, .Name y py] kt pt] (.Tuple [a, b] k2 pt2) pos) (tPar i j ta) := by
  intro pins s σ H D I h
  rw [exec_Assign_arm]
  refine wpAny_bind (wpAny_standAt ?_)
  rw [hs]
  refine wpAny_bind (wpAny_pure ?_)
  rw [if_neg (by decide)]
  refine wpAny_bind (Tuple_ (thn (ha _ pins s σ H _ I h) fun us s1 ⟨vs, H1, I1, r1, q1⟩ => ?_))
  obtain ⟨v, w, e1, q1⟩ := q1
  subst e1
  obtain ⟨u1, u2, rfl, rv, rw'⟩ : ∃ u1 u2, us = [u1, u2] ∧ RelV v u1 ∧ RelV w u2 := by
    cases r1 with
    | cons p q =>
      cases q with
      | cons p' q' =>
        cases q'
        exact ⟨_, _, rfl, p, p'⟩
  refine wpAny_newObj_type ?_ (by show 2 ≤ sizeLine; decide)
  have I2 : Inv X pins σ H1 { s1 with heap := s1.heap.push { cls := .type "tuple", data := .seq [u1, u2].toArray } } := I1.kept (t' := s1.toks) fun b o e => Heap.get?_push_of_some _ e
  rw [hw]
  refine wpAny_bind (wpAny_pure ?_)
  show wpAny (model X.prog X.w) X.A (do rule "assign.swapped-stores"; let items ← unpackItems (.ref s1.heap.objs.size) 2 none; assignInOrder [fun v => bindName X.env y v, fun v => bindName X.env x v] items.reverse; pure Flow.next) _ _ _
  refine wpAny_bind (wpAny_rule (wpAny_bind (unpackItems_tuple (items := #[u1, u2]) (I.ok.hd hc) (IsTup.new s1.heap _) fun h' hx' => ?_)))
  have I3 := I2.kept (h' := h') (t' := s1.toks) fun b o e => hx' b o (Nat.ne_of_lt (Heap.lt_size e)) e
  show wpAny _ _ (assignInOrder [fun v => bindName X.env y v, fun v => bindName X.env x v] [u2, u1] >>= fun _ => pure Flow.next) _ _ _
  refine wpAny_bind (assignInOrder_cons (wpAny_bindName (store_ok I3 hN hj (.inl hy) rw' (fun s2 I4 => ?_) (.inr hy))))
  refine assignInOrder_cons (wpAny_bindName (store_ok I4 hN hi (.inl hx) rv (fun s3 I5 => assignInOrder_nil (wpAny_pure ?_)) (.inr hx)))
  rw [List.set_comm _ _ (Ne.symm hij)] at I5
  exact ⟨_, H1, I5, q1⟩
/-- name op= e -/
def tAug (i : Nat) (te : TE) (ti : TIp) : TS := fun D σ H => ∃ x, σ[i]? = some (some x) ∧ te σ H fun y H1 => ti x y H1 fun z H2 => D.nx (σ.set i (some z)) H2
/-- o[i] op= e -/
def tAugS (to ti te : TE) (tget : V → V → Hp → VK → Prop) (tip : TIp) (tset : TSet) : TS := fun D σ H => to σ H fun o H1 => ti σ H1 fun i H2 => tget o i H2 fun x H3 => te σ H3 fun y H4 => tip x y H4 fun z H5 => tset o i z H5 fun H6 => D.nx σ H6
/-- o[i], by values -/
def PGet (X : Cx) (t : V → V → Hp → VK → Prop) : Prop :=
  ∀ (pins : List (Addr × Obj)) (s : Shared) (σ : St) (H : Hp) (o i : V) (ov iv : Value) (Q : VK), Inv X pins σ H s → RelV o ov → RelV i iv → t o i H Q →
    wpAny (model X.prog X.w) X.A (getItem ov iv) (EP X pins σ Q) X.xe s
/-- ints -/
def ipI (f : Int → Int → Int) : TIp := fun x y H Q => ∃ i j, x = .int i ∧ y = .int j ∧ Q (.int (f i j)) H
end

/-! ### while -/
section
variable {X : Cx} {pos : Pos}
/-- the invariant W with its measure -/
def tWhile (c : TT) (tb : TS) : TS := fun D σ H => ∃ W : Nat → St → Hp → Prop, (∃ m, W m σ H) ∧ ∀ m σ H, W m σ H →
  c σ H fun b H1 => if b = true then ∃ N : St → Hp → Prop, (∀ σ' H', N σ' H' → ∃ m', m' < m ∧ W m' σ' H') ∧ tb { D with nx := N, ct := N, bk := D.nx } σ H1 else D.nx σ H1
end

/-! ### what a loop or a comprehension walks -/
/-- at turn i: it yields x (the heap may grow), or it stops -/
structure It where
  go : Nat → Hp → Prop
  yld : Nat → Hp → V → Hp → Prop
  stop : Nat → Hp → Prop
/-- the iterator's own objects may turn: they are not the frame's, not pinned, younger than the entry (or a comprehension's own) -/
def FpOk (X : Cx) (pins : List (Addr × Obj)) (H : Hp) (b : Addr) : Prop :=
  H b = none ∧ b ≠ X.env.locals ∧ b ∉ X.fs ∧ (b ∈ X.ex ∨ X.s_0.heap.objs.size ≤ b) ∧ (∀ x c, X.env.cells.lookup x = some c → c ≠ b) ∧ ∀ p ∈ X.pn ++ pins, p.1 ≠ b
theorem Inv.fpOk {X : Cx} {pins : List (Addr × Obj)} {σ : St} {H H' : Hp} {s : Shared} {b : Addr} (I : Inv X pins σ H s) (hb : s.heap.objs.size ≤ b) (hn : H' b = none) : FpOk X pins H' b := by
  refine ⟨hn, Nat.ne_of_gt (Nat.lt_of_lt_of_le I.lt hb), I.nofs hb, .inr (Nat.le_trans I.sz hb), fun x c e z => ?_, fun p hp z => ?_⟩
  · obtain ⟨v, q⟩ := I.cell x c e
    exact absurd (Nat.lt_of_lt_of_le q.lt (by rw [z]; exact hb)) (Nat.lt_irrefl _)
  · exact absurd (Nat.lt_of_lt_of_le (Heap.lt_size (I.pin p hp).1) (by rw [z]; exact hb)) (Nat.lt_irrefl _)
structure Turn (P : Program) (w : World) (K : PySem.W.Frag) (tg : Expr) (J : It) (fp : List Addr) (it : Addr) (tn : Nat → Heap → Prop) : Prop where
  mem : it ∈ fp
  obj : ∀ i h, tn i h → ∀ b ∈ fp, ∃ o, h.get? b = some o ∧ ∀ v, o.data ≠ .cell v
  keep : ∀ i h h', tn i h → (∀ b ∈ fp, ∀ o, h.get? b = some o → h'.get? b = some o) → tn i h'
  item : ∀ (X : Cx), X.prog = P → X.w = w → X.K = K → X.calm = true → ∀ (i : Nat) (pins : List (Addr × Obj)) (s : Shared) (σ : St) (H : Hp) (E : Value → Shared → Prop), Inv X pins σ H s → (∀ b ∈ fp, FpOk X pins H b) → tn i s.heap → J.go i H →
    wpAny (model P w) X.A (pyNext (.ref it)) (fun r s1 => ∃ u, r = some u ∧
      wpAny (model P w) X.A (letOwnedTupleGo tg (.ref it) u) (fun _ s2 => ∃ x H', Inv X pins σ H' s2 ∧ RelV x u ∧ J.yld i H x H' ∧ tn (i + 1) s2.heap ∧ ∀ b ∈ fp, H' b = none) E s1) E s
  done : ∀ (X : Cx), X.prog = P → X.w = w → X.K = K → X.calm = true → ∀ (i : Nat) (pins : List (Addr × Obj)) (s : Shared) (σ : St) (H : Hp) (E : Value → Shared → Prop), Inv X pins σ H s → (∀ b ∈ fp, FpOk X pins H b) → tn i s.heap → J.stop i H →
    wpAny (model P w) X.A (pyNext (.ref it)) (fun r s1 => r = none ∧ Inv X pins σ H s1) E s
  self : ∀ (A : Around) (i : Nat) (s : Shared) (Q : Value → Shared → Prop) (E : Value → Shared → Prop), tn i s.heap → Q (.ref it) s → wpAny (model P w) A (pyIter (.ref it)) Q E s
abbrev TI := St → Hp → (It → Hp → Prop) → Prop
/-- an iterator has come -/
def PIE (X : Cx) (pins : List (Addr × Obj)) (σ : St) (tg : Expr) (R : It → Hp → Prop) (itv : Value) (s2 : Shared) : Prop :=
  ∃ (it : Addr) (fp : List Addr) (tn : Nat → Heap → Prop) (J : It) (H' : Hp), itv = .ref it ∧ Inv X pins σ H' s2 ∧ Turn X.prog X.w X.K tg J fp it tn ∧ tn 0 s2.heap ∧ (∀ b ∈ fp, FpOk X pins H' b) ∧ R J H'
def PI (X : Cx) (tg iter : Expr) (wi : TI) : Prop :=
  ∀ (pins : List (Addr × Obj)) (s : Shared) (σ : St) (H : Hp) (R : It → Hp → Prop), Inv X pins σ H s → wi σ H R →
    wpAny (model X.prog X.w) X.A (eval iter X.env) (fun v s1 => wpAny (model X.prog X.w) X.A (pyIter v) (PIE X pins σ tg R) X.xe s1) X.xe s

/-- the step ahead of the store is nothing for an iterator that keeps no tuple -/
theorem go_of {M : Model} {A : Around} {E : Value → Shared → Prop} {s : Shared} {tg : Expr} {it : Addr} {u : Value} {o : Obj} {n : String} {vs : Array Value} {Q : Unit → Shared → Prop} (ho : s.heap.get? it = some o) (hc : o.cls = .type n) (hd : o.data = .fields vs)
    (hn : ["enumerate", "zip", "dict_itemiterator", "dict_reverseitemiterator", "odict_iterator", "itertools.zip_longest", "itertools.pairwise"].contains n = false) (hQ : Q () s) : wpAny M A (letOwnedTupleGo tg (.ref it) u) Q E s := by
  unfold letOwnedTupleGo
  cases tg <;> first
    | exact wpAny_pure hQ
    | (cases u <;> first
        | exact wpAny_pure hQ
        | (refine wpAny_bind (wpAny_load ho ?_)
           rw [hc, hd]
           show wpAny M A (if (["enumerate", "zip", "dict_itemiterator", "dict_reverseitemiterator", "odict_iterator", "itertools.zip_longest", "itertools.pairwise"].contains n && vs[0]? == some (rawInt _)) = true then _ else _) Q E s
           rw [if_neg (by intro h; rw [hn, Bool.false_and] at h; cases h)]
           exact wpAny_pure hQ))

/-- the list at a, as it stands at each turn (a loop may append to it) -/
def Itl (K : PySem.W.Frag) (a : Addr) : It :=
  ⟨fun i H => ∃ xs x, SqL K H a xs ∧ xs[i]? = some x, fun i H x H' => H' = H ∧ ∀ xs, SqL K H a xs → xs[i]? = some x, fun i H => ∃ xs, SqL K H a xs ∧ xs.length ≤ i⟩
def Itt (K : PySem.W.Frag) (a : Addr) : It :=
  ⟨fun i H => ∃ xs x, SqT K H a xs ∧ xs[i]? = some x, fun i H x H' => H' = H ∧ ∀ xs, SqT K H a xs → xs[i]? = some x, fun i H => ∃ xs, SqT K H a xs ∧ xs.length ≤ i⟩
/-- lo, lo + 1, .. (n of them) -/
def Itr (lo : Int) (n : Nat) : It := ⟨fun i _ => i < n, fun i H x H' => H' = H ∧ x = .int (lo + i), fun i _ => n ≤ i⟩
theorem turn_list {P : Program} {w : World} {K : PySem.W.Frag} {tg : Expr} (a it : Addr) : Turn P w K tg (Itl K a) [it] it (fun i h => h.IsListIter it a i) where
  mem := by simp
  obj := fun i h st b hb => by
    have e : b = it := by simpa using hb
    subst e
    obtain ⟨o, e, c, d⟩ := st
    exact ⟨o, e, fun v z => by rw [d] at z; cases z⟩
  keep := fun i h h' st k => st.at fun o e => k it (by simp) o e
  item := by
    intro X hP hw hK hc i pins s σ H E I hf st hg
    subst hP hw hK
    obtain ⟨xs, x, hq, hx⟩ := hg
    obtain ⟨its, rv, p, hz⟩ := I.list hq
    obtain ⟨u, hu, ru⟩ := rv.get hx
    obtain ⟨f0, f1, f2, f3, f4, f5⟩ := hf it (by simp)
    refine wpAny_pyNext_list_item st p.isList (x := u) (by simpa using hu) fun h' st' sb => ?_
    have I1 : Inv X pins σ H { s with heap := h' } := I.turned (t' := s.toks) (fun b o hb e => (sb.2 b hb).trans e) f0 f1 f3 f4 f5
    obtain ⟨o, e, c, d⟩ := id st'
    exact ⟨u, rfl, go_of (s := { s with heap := h' }) e c d (by decide) ⟨x, H, I1, ru, ⟨rfl, fun ys hy => by rw [I.list_inj hy hq]; exact hx⟩, st', fun b hb => (hf b hb).1⟩⟩
  done := by
    intro X hP hw hK hc i pins s σ H E I hf st hg
    subst hP hw hK
    obtain ⟨xs, hq, hx⟩ := hg
    obtain ⟨its, rv, p, hz⟩ := I.list hq
    obtain ⟨f0, f1, f2, f3, f4, f5⟩ := hf it (by simp)
    have hl := rv.length
    exact wpAny_pyNext_list_end (I.ok.hd hc) st p.isList (by simp; omega) fun h' eb => ⟨rfl, I.turned (t' := s.toks) (fun b o hb e => eb b o hb e) f0 f1 f3 f4 f5⟩
  self := fun _ _ _ _ _ st h => wpAny_pyIter_listiter st h
theorem turn_range {P : Program} {w : World} {K : PySem.W.Frag} {tg : Expr} (it : Addr) (lo : Int) (n : Nat) : Turn P w K tg (Itr lo n) [it] it (fun i h => IsRangeIter h it (lo + (i : Nat) * 1) ((n : Int) - (i : Nat)) 1) where
  mem := by simp
  obj := fun i h st b hb => by
    have e : b = it := by simpa using hb
    subst e
    exact ⟨_, st, fun v z => by
      have z' : Data.fields _ = Data.cell v := z
      cases z'⟩
  keep := fun i h h' st k => k it (by simp) _ st
  item := by
    intro X hP hw hK hc i pins s σ H E I hf st hg
    subst hP hw hK
    obtain ⟨f0, f1, f2, f3, f4, f5⟩ := hf it (by simp)
    have W := Walks.range (prog := X.prog) (w := X.w) (I.ok.hd hc) it lo 1 n
    refine W.item i s _ _ hg st fun v h' tk hv st' kk => ?_
    obtain ⟨t, rfl⟩ := hv
    have I1 : Inv X pins σ H { s with heap := h', toks := tk } := I.turned (fun b o hb e => kk b o (by simpa using hb) e) f0 f1 f3 f4 f5
    refine ⟨_, rfl, go_of (s := { s with heap := h', toks := tk }) (n := "range_iterator") st' rfl rfl (by decide) ⟨.int (lo + i), H, I1, ⟨t, ?_⟩, ⟨rfl, rfl⟩, st', fun b hb => (hf b hb).1⟩⟩
    rw [Int.mul_one]
  done := by
    intro X hP hw hK hc i pins s σ H E I hf st hg
    subst hP hw hK
    obtain ⟨f0, f1, f2, f3, f4, f5⟩ := hf it (by simp)
    exact wpAny_pyNext_range_end (I.ok.hd hc) st (by have : n ≤ i := hg; omega) fun h' eb => ⟨rfl, I.turned (t' := s.toks) (fun b o hb e => eb b o hb e) f0 f1 f3 f4 f5⟩
  self := fun _ _ _ _ _ st h => wpAny_pyIter_rangeiter st h
end L2

namespace L2
open PySem PySem.Spec PyProof.Rows
section
variable {X : Cx} {tg : Expr}
def iList (K : PySem.W.Frag) (tl : TE) : TI := fun σ H R => tl σ H fun x H1 => ∃ a, x = .ref a ∧ (∃ xs, SqL K H1 a xs) ∧ R (Itl K a) H1
def iTup (K : PySem.W.Frag) (tl : TE) : TI := fun σ H R => tl σ H fun x H1 => ∃ a, x = .ref a ∧ (∃ xs, SqT K H1 a xs) ∧ R (Itt K a) H1
theorem pi_list {l : Expr} {tl : TE} (hl : PE X l tl) : PI X tg l (iList X.K tl) := by
  intro pins s σ H R I h
  refine thn (hl pins s σ H _ I h) fun v s1 ⟨x, H1, I1, r1, q1⟩ => ?_
  obtain ⟨a, e, ⟨xs, hq⟩, q⟩ := q1
  subst e
  cases r1
  obtain ⟨its, rv, p, hz⟩ := I1.list hq
  refine wpAny_pyIter_list p.isList ?_
  refine ⟨s1.heap.objs.size, [s1.heap.objs.size], _, _, H1, rfl, I1.kept (t' := s1.toks) fun b o e => Heap.get?_push_of_some _ e, turn_list a _, ⟨_, Heap.get?_push_size _ rfl, rfl, rfl⟩, fun b hb => ?_, q⟩
  have e : b = s1.heap.objs.size := by simpa using hb
  subst e
  exact I1.fpOk (Nat.le_refl _) (I1.hok.fresh (Nat.le_refl _))
/-- a range object just made, walked -/
theorem range_it {pins : List (Addr × Obj)} {σ : St} {H : Hp} {s : Shared} {R : It → Hp → Prop} {E : Value → Shared → Prop} {lo hi : Int} {t u v : Tok} {tk : Nat} (I : Inv X pins σ H s) (h1 : -(2 ^ 62) ≤ lo) (h2 : lo < 2 ^ 62) (h3 : -(2 ^ 62) ≤ hi) (h4 : hi < 2 ^ 62)
    (q : R (Itr lo (hi - lo).toNat) H) : wpAny (model X.prog X.w) X.A (pyIter (.ref s.heap.objs.size)) (PIE X pins σ tg R) E { s with heap := s.heap.push { cls := .type "range", data := .fields #[.int lo t, .int hi u, .int 1 v] }, toks := tk } := by
  refine wpAny_pyIter_range (IsRange.new ..) (small_one h1 h2 h3 h4) ?_
  have I1 : Inv X pins σ H { s with heap := s.heap.push { cls := .type "range", data := .fields #[.int lo t, .int hi u, .int 1 v] }, toks := tk } := I.kept fun b o e => Heap.get?_push_of_some _ e
  refine ⟨(s.heap.push { cls := .type "range", data := .fields #[.int lo t, .int hi u, .int 1 v] }).objs.size, [(s.heap.push { cls := .type "range", data := .fields #[.int lo t, .int hi u, .int 1 v] }).objs.size], _, _, H, rfl,
    I1.kept (t' := tk) fun b o e => Heap.get?_push_of_some _ e, turn_range _ lo (hi - lo).toNat, ?_, fun b hb => ?_, q⟩
  · have e1 : lo + ((0 : Nat) : Int) * 1 = lo := by simp
    have e2 : (((hi - lo).toNat : Nat) : Int) - ((0 : Nat) : Int) = Builtin.Range.rangeSize lo hi 1 := by rw [rangeSize_one]; split <;> omega
    show IsRangeIter _ _ (lo + ((0 : Nat) : Int) * 1) ((((hi - lo).toNat : Nat) : Int) - ((0 : Nat) : Int)) 1
    rw [e1, e2]
    exact Heap.get?_push_size _ rfl
  · have e : b = (s.heap.push { cls := .type "range", data := .fields #[.int lo t, .int hi u, .int 1 v] }).objs.size := by simpa using hb
    subst e
    exact I1.fpOk (Nat.le_refl _) (I1.hok.fresh (Nat.le_refl _))
def iRng1 (ta : TA) : TI := fun σ H R => ta σ H fun vs H1 => ∃ j : Int, vs = [.int j] ∧ -(2 ^ 62) ≤ j ∧ j < 2 ^ 62 ∧ R (Itr 0 j.toNat) H1
def iRng2 (ta : TA) : TI := fun σ H R => ta σ H fun vs H1 => ∃ i j : Int, vs = [.int i, .int j] ∧ (-(2 ^ 62) ≤ i ∧ i < 2 ^ 62 ∧ -(2 ^ 62) ≤ j ∧ j < 2 ^ 62) ∧ R (Itr i (j - i).toNat) H1
theorem pi_range1 {a : Expr} {ta : TA} {p pos : Pos} (hg : Gl X "range") (hm : X.mg "range" = none) (ha : PA X [a] ta) (hs : starEach [a] X.env = [(false, eval a X.env)] := by rfl) : PI X tg (.Call (.Name "range" p) [a] [] pos) (iRng1 ta) := by
  intro pins s σ H R I h
  refine Call_ (ld_blt I hg hm boot_range (PyProof.Rows.callWith_type1 (thn (ha pos pins s σ H _ I h) fun us s1 ⟨vs, H1, I1, r1, q1⟩ => ?_) hs rfl))
  obtain ⟨j, e, q1, q2, q⟩ := q1
  subst e
  cases r1 with
  | cons r rr =>
    cases rr
    obtain ⟨t, rfl⟩ := r
    exact call_range_1 (range_it I1 (by omega) (by omega) q1 q2 (by simpa using q))
theorem pi_range2 {a b : Expr} {ta : TA} {p pos : Pos} (hg : Gl X "range") (hm : X.mg "range" = none) (ha : PA X [a, b] ta) (hs : starEach [a, b] X.env = [(false, eval a X.env), (false, eval b X.env)] := by rfl) (hs2 : starEach [b] X.env = [(false, eval b X.env)] := by rfl) :
    PI X tg (.Call (.Name "range" p) [a, b] [] pos) (iRng2 ta) := by
  intro pins s σ H R I h
  refine Call_ (ld_blt I hg hm boot_range (PyProof.Rows.callWith_type1 (thn (ha pos pins s σ H _ I h) fun us s1 ⟨vs, H1, I1, r1, q1⟩ => ?_) (by rw [hs, hs2]) (by rw [hs2]; rfl)))
  obtain ⟨i, j, e, ⟨q1, q2, q3, q4⟩, q⟩ := q1
  subst e
  cases r1 with
  | cons r rr =>
    cases rr with
    | cons r' rr =>
      cases rr
      obtain ⟨t, rfl⟩ := r
      obtain ⟨t', rfl⟩ := r'
      exact call_range_2 (range_it I1 q1 q2 q3 q4 q)

/-! ### for -/
/-- W: the invariant by the turn and a measure; N: what the body is to reach -/
def tFor (wi : TI) (g : TG) (tb : TS) : TS := fun D σ H => wi σ H fun J H1 => ∃ W : Nat → Nat → St → Hp → Prop, (∃ m, W 0 m σ H1) ∧ ∀ i m σ H, W i m σ H →
  (J.stop i H ∧ D.nx σ H) ∨ (J.go i H ∧ ∃ N : St → Hp → Prop, (∀ σ' H', N σ' H' → ∃ m', m' < m ∧ W (i + 1) m' σ' H') ∧ ∀ x H', J.yld i H x H' → g x σ H' fun σ2 H2 => tb { D with nx := N, ct := N, bk := D.nx } σ2 H2)
/-- the records at fp as they stand -/
def pinsAt (fp : List Addr) (h : Heap) : List (Addr × Obj) := fp.filterMap fun b => (h.get? b).map fun o => (b, o)
theorem mem_pinsAt {fp : List Addr} {h : Heap} {b : Addr} {o : Obj} (hb : b ∈ fp) (e : h.get? b = some o) : (b, o) ∈ pinsAt fp h := List.mem_filterMap.mpr ⟨b, hb, by rw [e]; rfl⟩
theorem of_pinsAt {fp : List Addr} {h : Heap} {p : Addr × Obj} (hp : p ∈ pinsAt fp h) : p.1 ∈ fp ∧ h.get? p.1 = some p.2 := by
  obtain ⟨b, hb, e⟩ := List.mem_filterMap.mp hp
  cases q : h.get? b with
  | none => rw [q] at e; cases e
  | some o =>
    rw [q] at e
    have e' : (b, o) = p := Option.some.inj e
    subst e'
    exact ⟨hb, q⟩
theorem Inv.pinned {pins : List (Addr × Obj)} {σ : St} {H : Hp} {s : Shared} {fp : List Addr} (I : Inv X pins σ H s) (hf : ∀ b ∈ fp, FpOk X pins H b) (ho : ∀ b ∈ fp, ∃ o, s.heap.get? b = some o ∧ ∀ v, o.data ≠ .cell v) : Inv X (pins ++ pinsAt fp s.heap) σ H s :=
  I.pins_of fun p hp => (List.mem_append.mp hp).elim (fun z => I.pin p (List.mem_append_right _ z)) fun z => by
    obtain ⟨hb, e⟩ := of_pinsAt z
    obtain ⟨f0, f1, f2, _⟩ := hf p.1 hb
    obtain ⟨o, e', d⟩ := ho p.1 hb
    rw [e] at e'; cases e'
    exact ⟨e, f0, f1, f2, d⟩
theorem Inv.unpinned {pins pl : List (Addr × Obj)} {σ : St} {H : Hp} {s : Shared} (I : Inv X (pins ++ pl) σ H s) : Inv X pins σ H s := I.pins_of fun p hp => I.pin p (List.mem_append_right _ (List.mem_append_left _ hp))
theorem ps_for {iter : Expr} {body : List Stmt} {wi : TI} {g : TG} {tb : TS} {pos : Pos} (hp : PassesOwn (model X.prog X.w) X.A X.env X.xe) (hc : X.calm = true) (hi : PI X tg iter wi) (hg : PG X tg g) (hb : PSs X body tb)
    (hs : ∀ x, foldedSetIterable iter X.env x = pure x := by intro _; rfl) : PS X (.For tg iter body [] pos) (tFor wi g tb) := by
  intro pins s σ H D I h
  refine wpAny_For (thn (hi pins s σ H _ I h) fun v s1 h1 => thn h1 fun itv s2 h2 => ?_) hs
  obtain ⟨it, fp, tn, J, H2, e, I2, T, st2, f2, W, ⟨m0, w0⟩, turn⟩ := h2
  subst e
  -- what stays true of the iterator's objects through the loop
  have stat : ∀ {H' : Hp}, (∀ b ∈ fp, H' b = none) → ∀ b ∈ fp, FpOk X pins H' b := fun hn b hb => ⟨hn b hb, (f2 b hb).2⟩
  refine codeAny_forLoop_any (fun n s' => ∃ i σ' H', Inv X pins σ' H' s' ∧ tn i s'.heap ∧ (∀ b ∈ fp, H' b = none) ∧ W i n σ' H') ?_ m0 ⟨0, σ, H2, I2, st2, fun b hb => (f2 b hb).1, w0⟩
  rintro n s3 ⟨i, σ3, H3, I3, st3, fr3, w3⟩
  rcases turn i n σ3 H3 w3 with ⟨stop, qn⟩ | ⟨go, N, hN, step⟩
  · refine wpAny_passesOwn hp (thn (T.done X rfl rfl rfl hc i pins s3 σ3 H3 X.xe I3 (stat fr3) st3 stop) fun r s4 ⟨hr, I4⟩ => ?_)
    subst hr
    exact wpAny_execs_nil ⟨σ3, H3, I4, qn⟩
  · refine wpAny_passesOwn hp (thn (T.item X rfl rfl rfl hc i pins s3 σ3 H3 X.xe I3 (stat fr3) st3 go) fun r s4 ⟨u, hr, h4⟩ => ?_)
    subst hr
    refine wpAny_passesOwn hp (thn h4 fun _ s5 ⟨x, H5, I5, r5, y5, st5, fr5⟩ => ?_)
    have I5' := I5.pinned (stat fr5) (T.obj _ _ st5)
    refine wpAny_passesOwn hp (thn (hg _ s5 σ3 H5 x u _ I5' r5 (step x H5 y5)) fun _ s6 ⟨σ6, H6, I6, q6⟩ => ?_)
    refine wpAny_passesOwn hp (thn (hb _ s6 σ6 H6 _ I6 q6) fun f s7 q7 => ?_)
    have again : ∀ {σ7 : St} {H7 : Hp}, Inv X (pins ++ pinsAt fp s5.heap) σ7 H7 s7 → N σ7 H7 → ∃ m, m < n ∧ ∃ i σ' H', Inv X pins σ' H' s7 ∧ tn i s7.heap ∧ (∀ b ∈ fp, H' b = none) ∧ W i m σ' H' := fun {σ7 H7} I7 n7 => by
      obtain ⟨m', hm, w7⟩ := hN σ7 H7 n7
      refine ⟨m', hm, i + 1, σ7, H7, I7.unpinned, T.keep _ _ _ st5 fun b hb o e => (I7.pin (b, o) (List.mem_append_right _ (List.mem_append_right _ (mem_pinsAt hb e)))).1, fun b hb => ?_, w7⟩
      obtain ⟨o, e, d⟩ := T.obj _ _ st5 b hb
      exact (I7.pin (b, o) (List.mem_append_right _ (List.mem_append_right _ (mem_pinsAt hb e)))).2.1
    cases f with
    | next => obtain ⟨σ7, H7, I7, n7⟩ := q7; exact again I7 n7
    | cont => obtain ⟨σ7, H7, I7, n7⟩ := q7; exact again I7 n7
    | brk => obtain ⟨σ7, H7, I7, q7⟩ := q7; exact ⟨σ7, H7, I7.unpinned, q7⟩
    | ret v => obtain ⟨x7, σ7, H7, I7, r7, q7⟩ := q7; exact ⟨x7, σ7, H7, I7.unpinned, r7, q7⟩
end

/-! ### the forms one uses -/
/-- over a list that the body leaves as it is -/
theorem for_list {K : PySem.W.Frag} {a : Addr} {xs : List V} {g : TG} {tb : TS} {D : Ends} {σ : St} {H : Hp} (Pv : Nat → St → Hp → Prop) (h0 : Pv 0 σ H) (hl : ∀ i σ H, i ≤ xs.length → Pv i σ H → SqL K H a xs)
    (hs : ∀ i x σ H, xs[i]? = some x → Pv i σ H → g x σ H fun σ2 H2 => tb { D with nx := Pv (i + 1), ct := Pv (i + 1), bk := D.nx } σ2 H2) (hd : ∀ σ H, Pv xs.length σ H → D.nx σ H) :
    ∃ W : Nat → Nat → St → Hp → Prop, (∃ m, W 0 m σ H) ∧ ∀ i m σ H, W i m σ H →
      ((Itl K a).stop i H ∧ D.nx σ H) ∨ ((Itl K a).go i H ∧ ∃ N : St → Hp → Prop, (∀ σ' H', N σ' H' → ∃ m', m' < m ∧ W (i + 1) m' σ' H') ∧ ∀ x H', (Itl K a).yld i H x H' → g x σ H' fun σ2 H2 => tb { D with nx := N, ct := N, bk := D.nx } σ2 H2) := by
  refine ⟨fun i m σ H => m = xs.length - i ∧ i ≤ xs.length ∧ Pv i σ H, ⟨xs.length, by simp, Nat.zero_le _, h0⟩, ?_⟩
  rintro i m σ H ⟨rfl, hi, p⟩
  have q := hl i σ H hi p
  by_cases hlt : i < xs.length
  · refine .inr ⟨⟨xs, xs[i], q, by simp [hlt]⟩, Pv (i + 1), fun σ' H' p' => ⟨xs.length - (i + 1), by omega, rfl, hlt, p'⟩, fun x H' y => ?_⟩
    obtain ⟨e, y⟩ := y
    subst e
    exact hs i x σ _ (y xs q) p
  · have e : i = xs.length := by omega
    subst e
    exact .inl ⟨⟨xs, q, Nat.le_refl _⟩, hd σ H p⟩
theorem for_range {lo : Int} {n : Nat} {g : TG} {tb : TS} {D : Ends} {σ : St} {H : Hp} (Pv : Nat → St → Hp → Prop) (h0 : Pv 0 σ H)
    (hs : ∀ i σ H, i < n → Pv i σ H → g (.int (lo + i)) σ H fun σ2 H2 => tb { D with nx := Pv (i + 1), ct := Pv (i + 1), bk := D.nx } σ2 H2) (hd : ∀ σ H, Pv n σ H → D.nx σ H) :
    ∃ W : Nat → Nat → St → Hp → Prop, (∃ m, W 0 m σ H) ∧ ∀ i m σ H, W i m σ H →
      ((Itr lo n).stop i H ∧ D.nx σ H) ∨ ((Itr lo n).go i H ∧ ∃ N : St → Hp → Prop, (∀ σ' H', N σ' H' → ∃ m', m' < m ∧ W (i + 1) m' σ' H') ∧ ∀ x H', (Itr lo n).yld i H x H' → g x σ H' fun σ2 H2 => tb { D with nx := N, ct := N, bk := D.nx } σ2 H2) := by
  refine ⟨fun i m σ H => m = n - i ∧ i ≤ n ∧ Pv i σ H, ⟨n, by simp, Nat.zero_le _, h0⟩, ?_⟩
  rintro i m σ H ⟨rfl, hi, p⟩
  by_cases hlt : i < n
  · refine .inr ⟨hlt, Pv (i + 1), fun σ' H' p' => ⟨n - (i + 1), by omega, rfl, hlt, p'⟩, fun x H' y => ?_⟩
    obtain ⟨e, y⟩ := y
    subst e y
    exact hs i σ _ hlt p
  · have e : i = n := by omega
    subst e
    exact .inl ⟨Nat.le_refl _, hd σ H p⟩
end L2

namespace L2
open PySem PySem.Spec PyProof.Rows

abbrev R2 := V → V → Hp → VK → Prop
/-- a two-place operation on values: f is binaryOp op, inplaceOp op or compareOp op -/
def OpR (X : Cx) (f : Value → Value → Sem Value) (r : R2) : Prop :=
  ∀ (pins : List (Addr × Obj)) (s : Shared) (σ : St) (H : Hp) (x y : V) (v u : Value) (Q : VK), Inv X pins σ H s → RelV x v → RelV y u → r x y H Q →
    wpAny (model X.prog X.w) X.A (f v u) (EP X pins σ Q) X.xe s
/-- a one-place operation -/
def UnR (X : Cx) (f : Value → Sem Value) (r : V → Hp → VK → Prop) : Prop :=
  ∀ (pins : List (Addr × Obj)) (s : Shared) (σ : St) (H : Hp) (x : V) (v : Value) (Q : VK), Inv X pins σ H s → RelV x v → r x H Q →
    wpAny (model X.prog X.w) X.A (f v) (EP X pins σ Q) X.xe s
/-- a call of a value that is known (a builtin, a type) with values -/
def CallR (X : Cx) (f : Value) (r : List V → Hp → VK → Prop) : Prop :=
  ∀ (pins : List (Addr × Obj)) (s : Shared) (σ : St) (H : Hp) (xs : List V) (us : List Value) (Q : VK), Inv X pins σ H s → Vals xs us → r xs H Q →
    wpAny (model X.prog X.w) X.A (call f us) (EP X pins σ Q) X.xe s
/-- a value's truth -/
def TruR (X : Cx) (r : V → Hp → (Bool → Hp → Prop) → Prop) : Prop :=
  ∀ (pins : List (Addr × Obj)) (s : Shared) (σ : St) (H : Hp) (x : V) (v : Value) (Q : Bool → Hp → Prop), Inv X pins σ H s → RelV x v → r x H Q →
    wpAny (model X.prog X.w) X.A (truthy v) (TP X pins σ Q) X.xe s

def tOp (r : R2) (ta tb : TE) : TE := fun σ H Q => ta σ H fun x H1 => tb σ H1 fun y H2 => r x y H2 Q
def tUn (r : V → Hp → VK → Prop) (ta : TE) : TE := fun σ H Q => ta σ H fun x H1 => r x H1 Q
/-- ints in, under C, and a value out -/
def rI (C : Int → Int → Prop) (g : Int → Int → V) : R2 := fun x y H Q => ∃ i j, x = .int i ∧ y = .int j ∧ C i j ∧ Q (g i j) H
def rI0 (g : Int → Int → V) : R2 := fun x y H Q => ∃ i j, x = .int i ∧ y = .int j ∧ Q (g i j) H
def rU (g : Int → V) : V → Hp → VK → Prop := fun x H Q => ∃ i, x = .int i ∧ Q (g i) H

section
variable {X : Cx} {a b c : Expr} {ta tb tc : TE} {pos : Pos}

theorem binT (ha : PE X a ta) (hb : PE X b tb) {pins : List (Addr × Obj)} {s : Shared} {σ : St} {H : Hp} {R : V → V → Hp → Prop} (I : Inv X pins σ H s)
    (h : ta σ H fun x H1 => tb σ H1 fun y H2 => R x y H2) {Q : Value → Shared → Prop} {f : Value → Value → Sem Value}
    (hf : ∀ v u s2 x y H2, Inv X pins σ H2 s2 → RelV x v → RelV y u → R x y H2 → wpAny (model X.prog X.w) X.A (f v u) Q X.xe s2) :
    wpAny (model X.prog X.w) X.A (eval a X.env) (fun v s₁ => wpAny (model X.prog X.w) X.A (eval b X.env) (fun u s₂ => wpAny (model X.prog X.w) X.A (f v u) Q X.xe s₂) X.xe s₁) X.xe s := by
  refine thn (ha pins s σ H _ I h) fun v s1 ⟨x, H1, I1, r1, q1⟩ => ?_
  refine thn (hb pins s1 σ H1 _ I1 q1) fun u s2 ⟨y, H2, I2, r2, q2⟩ => ?_
  exact hf v u s2 x y H2 I2 r1 r2 q2

theorem pe_op {op : Operator} {r : R2} (ho : OpR X (binaryOp op) r) (ha : PE X a ta) (hb : PE X b tb) : PE X (.BinOp a op b pos) (tOp r ta tb) := by
  intro pins s σ H Q I h
  exact wpAny_BinOp (binT ha hb I h fun v u s2 x y H2 I2 rx ry q => ho pins s2 σ H2 x y v u Q I2 rx ry q)
theorem pe_un {op : UnaryOp} {r : V → Hp → VK → Prop} (ho : UnR X (unaryOp op) r) (ha : PE X a ta) : PE X (.UnaryOp op a pos) (tUn r ta) := by
  intro pins s σ H Q I h
  exact UnaryOp_ (thn (ha pins s σ H _ I h) fun v s1 ⟨x, H1, I1, r1, q1⟩ => ho pins s1 σ H1 x v Q I1 r1 q1)
/-! ### ints -/
theorem opI {f : Value → Value → Sem Value} {C : Int → Int → Prop} {g : Int → Int → Int}
    (rule : ∀ (i j : Int) (t u : Tok) (s : Shared) (Q : Value → Shared → Prop) (E : Value → Shared → Prop), C i j → Q (.int (g i j) s.toks) { s with toks := s.toks + 1 } → wpAny (model X.prog X.w) X.A (f (.int i t) (.int j u)) Q E s) :
    OpR X f (rI C fun i j => .int (g i j)) := by
  intro pins s σ H x y v u Q I rx ry h
  obtain ⟨i, j, rfl, rfl, hc, q⟩ := h
  obtain ⟨t, rfl⟩ := rx
  obtain ⟨t', rfl⟩ := ry
  exact rule i j t t' s _ _ hc ⟨.int (g i j), H, I.tok _, ⟨_, rfl⟩, q⟩
theorem opI0 {f : Value → Value → Sem Value} {g : Int → Int → Int}
    (rule : ∀ (i j : Int) (t u : Tok) (s : Shared) (Q : Value → Shared → Prop) (E : Value → Shared → Prop), Q (.int (g i j) s.toks) { s with toks := s.toks + 1 } → wpAny (model X.prog X.w) X.A (f (.int i t) (.int j u)) Q E s) :
    OpR X f (rI0 fun i j => .int (g i j)) := by
  intro pins s σ H x y v u Q I rx ry h
  obtain ⟨i, j, rfl, rfl, q⟩ := h
  obtain ⟨t, rfl⟩ := rx
  obtain ⟨t', rfl⟩ := ry
  exact rule i j t t' s _ _ ⟨.int (g i j), H, I.tok _, ⟨_, rfl⟩, q⟩
theorem opB0 {f : Value → Value → Sem Value} {g : Int → Int → Bool}
    (rule : ∀ (i j : Int) (t u : Tok) (s : Shared) (Q : Value → Shared → Prop) (E : Value → Shared → Prop), Q (.bool (g i j)) s → wpAny (model X.prog X.w) X.A (f (.int i t) (.int j u)) Q E s) :
    OpR X f (rI0 fun i j => .bl (g i j)) := by
  intro pins s σ H x y v u Q I rx ry h
  obtain ⟨i, j, rfl, rfl, q⟩ := h
  obtain ⟨t, rfl⟩ := rx
  obtain ⟨t', rfl⟩ := ry
  exact rule i j t t' s _ _ ⟨.bl (g i j), H, I, rfl, q⟩

def CDiv (i j : Int) : Prop := 0 < j ∧ j < 1073741824
def CDivN (i j : Int) : Prop := j ≠ 0 ∧ j.natAbs < 1073741824
def CPow (i j : Int) : Prop := 0 ≤ j ∧ j ≤ 1000000 ∧ i.natAbs < 2 ^ 64
def CMul (i j : Int) : Prop := (-(2 ^ 64) < i ∧ i < 2 ^ 64) ∨ (-(2 ^ 64) < j ∧ j < 2 ^ 64)
theorem CMul.ok {i j : Int} (h : CMul i j) : IntMulOk i j := by
  rcases h with ⟨h1, h2⟩ | ⟨h1, h2⟩
  · exact .of_left (intBits_le_64 h1 h2)
  · exact .of_right (intBits_le_64 h1 h2)
theorem two_pow_nn (k : Nat) : (0 : Int) ≤ 2 ^ k := by
  rw [two_pow_cast]
  exact Int.natCast_nonneg _

theorem op_add : OpR X (binaryOp .Add) (rI0 fun i j => .int (i + j)) := opI0 fun _ _ _ _ _ _ _ q => add_int q
theorem op_sub : OpR X (binaryOp .Sub) (rI0 fun i j => .int (i - j)) := opI0 fun _ _ _ _ _ _ _ q => sub_int q
theorem op_mul : OpR X (binaryOp .Mult) (rI CMul fun i j => .int (i * j)) := opI fun _ _ _ _ _ _ _ hc q => mul_int q hc.ok
/-- // by a positive divisor -/
theorem op_fdiv : OpR X (binaryOp .FloorDiv) (rI CDiv fun i j => .int (i / j)) := opI fun i j _ _ _ _ _ hc q => by
  have h1 : (0 : Int) < j := hc.1
  have h2 : j < 1073741824 := hc.2
  exact floordiv_int (by omega) (by rw [Int.fdiv_eq_ediv_of_nonneg i (by omega)]; exact q) (.inl (PyProof.noPylong_small (by omega)))
/-- % by a positive divisor of any size -/
theorem op_mod : OpR X (binaryOp .Mod) (rI (fun _ j => 0 < j) fun i j => .int (i % j)) := opI fun i j _ _ _ _ _ hc q => by
  have h1 : (0 : Int) < j := hc
  exact mod_int' (by omega) (by rw [Int.fmod_eq_emod_of_nonneg i (by omega)]; exact q)
theorem op_pow : OpR X (binaryOp .Pow) (rI CPow fun i j => .int (i ^ j.toNat)) := opI fun _ _ _ _ _ _ _ hc q => pow_int_small hc.1 hc.2.1 hc.2.2 q
theorem op_shl : OpR X (binaryOp .LShift) (rI CPow fun i j => .int (i * 2 ^ j.toNat)) := opI fun _ _ _ _ _ _ _ hc q => lshift_int_small hc.1 hc.2.1 hc.2.2 q
theorem op_shr : OpR X (binaryOp .RShift) (rI (fun _ j => 0 ≤ j) fun i j => .int (i / 2 ^ j.toNat)) := opI fun i j _ _ _ _ _ hc q =>
  rshift_int hc (by rw [Int.fdiv_eq_ediv_of_nonneg i (two_pow_nn _)]; exact q)
theorem op_and : OpR X (binaryOp .BitAnd) (rI0 fun i j => .int (Builtin.bitAnd i j)) := opI0 fun _ _ _ _ _ _ _ q => and_int q
theorem unI {f : Value → Sem Value} {g : Int → Int}
    (rule : ∀ (i : Int) (t : Tok) (s : Shared) (Q : Value → Shared → Prop) (E : Value → Shared → Prop), Q (.int (g i) s.toks) { s with toks := s.toks + 1 } → wpAny (model X.prog X.w) X.A (f (.int i t)) Q E s) :
    UnR X f (rU fun i => .int (g i)) := by
  intro pins s σ H x v Q I rx h
  obtain ⟨i, rfl, q⟩ := h
  obtain ⟨t, rfl⟩ := rx
  exact rule i t s _ _ ⟨.int (g i), H, I.tok _, ⟨_, rfl⟩, q⟩
theorem un_neg : UnR X (unaryOp .USub) (rU fun i => .int (-i)) := unI fun _ _ _ _ _ q => neg_int q
/-! ### bools among ints: n += (a < b) -/
end

/-! ### comparisons -/
/-- the scalars that == tells apart as data does -/
def scal : V → V → Bool
  | .non, .non => true | .non, .int _ => true | .int _, .non => true | .non, .bl _ => true | .bl _, .non => true | .non, .str _ => true | .str _, .non => true
  | .int _, .int _ => true | .bl _, .bl _ => true | .str _, .str _ => true | .byt _, .byt _ => true
  | .int _, .str _ => true | .str _, .int _ => true | .bl _, .str _ => true | .str _, .bl _ => true
  | _, _ => false
def rEq : R2 := fun x y H Q => scal x y = true ∧ Q (.bl (decide (x = y))) H
def rNe : R2 := fun x y H Q => scal x y = true ∧ Q (.bl (!decide (x = y))) H

theorem dec_int {i j : Int} : decide (V.int i = V.int j) = (i == j) := by
  rw [Bool.eq_iff_iff]
  simp
theorem dec_bl {i j : Bool} : decide (V.bl i = V.bl j) = (i == j) := by
  rw [Bool.eq_iff_iff]
  simp
theorem dec_str {i j : Str} : decide (V.str i = V.str j) = (i == j) := by
  rw [Bool.eq_iff_iff]
  simp
theorem dec_byt {i j : Array UInt8} : decide (V.byt i = V.byt j) = (i.toList == j.toList) := by
  rw [Bool.eq_iff_iff]
  cases i
  cases j
  simp

section
variable {X : Cx} {a b c : Expr} {ta tb tc : TE} {pos : Pos}
theorem fin_bl {pins : List (Addr × Obj)} {σ : St} {H : Hp} {s : Shared} {Q : VK} {k k' : Bool} (I : Inv X pins σ H s) (q : Q (.bl k) H) (e : k = k') : EP X pins σ Q (.bool k') s := by
  subst e
  exact ⟨.bl k, H, I, rfl, q⟩
theorem op_eq : OpR X (compareOp .Eq) rEq := by
  intro pins s σ H x y v u Q I rx ry h
  obtain ⟨hs, q⟩ := h
  cases x with
  | non =>
    cases rx
    cases y with
    | non => cases ry; exact PySem.EqNone.eq_none_none (fin_bl I q (by simp))
    | bl j => cases ry; exact PySem.EqNone.eq_none_bool (fin_bl I q (by simp))
    | int j => obtain ⟨t', rfl⟩ := ry; exact PySem.EqNone.eq_none_int (fin_bl I q (by simp))
    | str j => obtain ⟨t', rfl⟩ := ry; exact PySem.EqNone.eq_none_str (fin_bl I q (by simp))
    | _ => exact absurd (show false = true from hs) Bool.false_ne_true
  | bl i =>
    cases rx
    cases y with
    | non => cases ry; exact PySem.EqNone.eq_bool_none (fin_bl I q (by simp))
    | bl j => cases ry; exact eq_bool (fin_bl I q dec_bl)
    | str j => obtain ⟨t', rfl⟩ := ry; exact PySem.EqMixed.eq_bool_str (fin_bl I q (by simp))
    | _ => exact absurd (show false = true from hs) Bool.false_ne_true
  | int i =>
    obtain ⟨t, rfl⟩ := rx
    cases y with
    | non => cases ry; exact PySem.EqNone.eq_int_none (fin_bl I q (by simp))
    | int j => obtain ⟨t', rfl⟩ := ry; exact eq_int (fin_bl I q dec_int)
    | str j => obtain ⟨t', rfl⟩ := ry; exact PySem.EqMixed.eq_int_str (fin_bl I q (by simp))
    | _ => exact absurd (show false = true from hs) Bool.false_ne_true
  | str i =>
    obtain ⟨t, rfl⟩ := rx
    cases y with
    | non => cases ry; exact PySem.EqNone.eq_str_none (fin_bl I q (by simp))
    | bl j => cases ry; exact PySem.EqMixed.eq_str_bool (fin_bl I q (by simp))
    | int j => obtain ⟨t', rfl⟩ := ry; exact PySem.EqMixed.eq_str_int (fin_bl I q (by simp))
    | str j => obtain ⟨t', rfl⟩ := ry; exact eq_str (fin_bl I q dec_str)
    | _ => exact absurd (show false = true from hs) Bool.false_ne_true
  | byt i =>
    obtain ⟨t, rfl⟩ := rx
    cases y with
    | byt j => obtain ⟨t', rfl⟩ := ry; exact PySem.W.eq_bytes (fin_bl I q dec_byt)
    | _ => exact absurd (show false = true from hs) Bool.false_ne_true
  | _ => cases y <;> exact absurd (show false = true from hs) Bool.false_ne_true
theorem op_ne : OpR X (compareOp .NotEq) rNe := by
  intro pins s σ H x y v u Q I rx ry h
  obtain ⟨hs, q⟩ := h
  cases x with
  | non =>
    cases rx
    cases y with
    | non => cases ry; exact PySem.EqNone.ne_none_none (fin_bl I q (by simp))
    | bl j => cases ry; exact PySem.EqNone.ne_none_bool (fin_bl I q (by simp))
    | int j => obtain ⟨t', rfl⟩ := ry; exact PySem.EqNone.ne_none_int (fin_bl I q (by simp))
    | str j => obtain ⟨t', rfl⟩ := ry; exact PySem.EqNone.ne_none_str (fin_bl I q (by simp))
    | _ => exact absurd (show false = true from hs) Bool.false_ne_true
  | bl i =>
    cases rx
    cases y with
    | non => cases ry; exact PySem.EqNone.ne_bool_none (fin_bl I q (by simp))
    | bl j => cases ry; exact ne_bool (fin_bl I q (congrArg not dec_bl))
    | str j => obtain ⟨t', rfl⟩ := ry; exact PySem.EqMixed.ne_bool_str (fin_bl I q (by simp))
    | _ => exact absurd (show false = true from hs) Bool.false_ne_true
  | int i =>
    obtain ⟨t, rfl⟩ := rx
    cases y with
    | non => cases ry; exact PySem.EqNone.ne_int_none (fin_bl I q (by simp))
    | int j => obtain ⟨t', rfl⟩ := ry; exact ne_int (fin_bl I q (congrArg not dec_int))
    | str j => obtain ⟨t', rfl⟩ := ry; exact PySem.EqMixed.ne_int_str (fin_bl I q (by simp))
    | _ => exact absurd (show false = true from hs) Bool.false_ne_true
  | str i =>
    obtain ⟨t, rfl⟩ := rx
    cases y with
    | non => cases ry; exact PySem.EqNone.ne_str_none (fin_bl I q (by simp))
    | bl j => cases ry; exact PySem.EqMixed.ne_str_bool (fin_bl I q (by simp))
    | int j => obtain ⟨t', rfl⟩ := ry; exact PySem.EqMixed.ne_str_int (fin_bl I q (by simp))
    | str j => obtain ⟨t', rfl⟩ := ry; exact ne_str (fin_bl I q (congrArg not dec_str))
    | _ => exact absurd (show false = true from hs) Bool.false_ne_true
  | byt i =>
    obtain ⟨t, rfl⟩ := rx
    cases y with
    | byt j => obtain ⟨t', rfl⟩ := ry; exact PySem.W.ne_bytes (fin_bl I q (congrArg not dec_byt))
    | _ => exact absurd (show false = true from hs) Bool.false_ne_true
  | _ => cases y <;> exact absurd (show false = true from hs) Bool.false_ne_true

theorem op_lt : OpR X (compareOp .Lt) (rI0 fun i j => .bl (decide (i < j))) := opB0 fun _ _ _ _ _ _ _ q => lt_int q
theorem op_le : OpR X (compareOp .LtE) (rI0 fun i j => .bl (decide (i ≤ j))) := opB0 fun _ _ _ _ _ _ _ q => le_int q
theorem op_gt : OpR X (compareOp .Gt) (rI0 fun i j => .bl (decide (j < i))) := opB0 fun _ _ _ _ _ _ _ q => gt_int q
theorem op_ge : OpR X (compareOp .GtE) (rI0 fun i j => .bl (decide (j ≤ i))) := opB0 fun _ _ _ _ _ _ _ q => ge_int q
/-- is None, is not None: the right side a value none -/
theorem op_isN : OpR X (compareOp .Is) (fun x y H Q => y = .non ∧ Q (.bl (decide (x = .non))) H) := by
  intro pins s σ H x y v u Q I rx ry h
  obtain ⟨rfl, q⟩ := h
  cases ry
  refine is_none_gen (fin_bl I q ?_)
  cases x <;> first
    | (cases rx; rfl)
    | (obtain ⟨t, rfl⟩ := rx; rfl)
/-- is, is not of two objects that are tracked lists or instances -/
def isObj : HO → Bool
  | .lst _ => true
  | .ins _ _ _ => true
  | _ => false
theorem nomark (b : Expr) {op : CmpOp} (h : op ≠ .In := by decide) (h2 : op ≠ .NotIn := by decide) : behindInMarks op b = false := by
  have e1 : (op == CmpOp.In) = false := by cases op <;> first | rfl | exact absurd rfl h
  have e2 : (op == CmpOp.NotIn) = false := by cases op <;> first | rfl | exact absurd rfl h2
  cases b <;> simp [behindInMarks, e1, e2]
/-- a comparison as a value; hm: nomark b, or (for in, not in) by with_unfolding_all rfl -/
theorem pe_cmpR {op : CmpOp} {r : R2} (ho : OpR X (compareOp op) r) (ha : PE X a ta) (hb : PE X b tb) (hm : behindInMarks op b = false) : PE X (.Compare a [op] [b] pos) (tOp r ta tb) := by
  intro pins s σ H Q I h
  exact wpAny_Compare1 (binT ha hb I h fun v u s2 x y H2 I2 rx ry q => ho pins s2 σ H2 x y v u Q I2 rx ry q) hm
/-- a reading of a value as a test -/
def tTest (t : TE) : TT := fun σ H Q => t σ H fun x H' => ∃ k, x = .bl k ∧ Q k H'
theorem pt_cmpR {op : CmpOp} {r : R2} (ho : OpR X (compareOp op) r) (ha : PE X a ta) (hb : PE X b tb) (hm : behindInMarks op b = false) : PT X (.Compare a [op] [b] pos) (tTest (tOp r ta tb)) := by
  intro pins s σ H Q I h
  refine wpAny_isTrue_Compare1 (thn (ha pins s σ H _ I h) fun v s1 ⟨x, H1, I1, r1, q1⟩ => thn (hb pins s1 σ H1 _ I1 q1) fun u s2 ⟨y, H2, I2, r2, q2⟩ =>
    thn (ho pins s2 σ H2 x y v u _ I2 r1 r2 q2) fun c s3 ⟨z, H3, I3, r3, k, e, q3⟩ => ?_) hm
  subst e
  cases r3
  exact wpAny_truthy_bool ⟨H3, I3, q3⟩
/-- a op1 b op2 c -/
def tChain (r r' : R2) (ta tb tc : TE) : TE := fun σ H Q => ta σ H fun x H1 => tb σ H1 fun y H2 => r x y H2 fun z H3 => ∃ k, z = .bl k ∧
  (if k = true then tc σ H3 fun w' H4 => r' y w' H4 Q else Q (.bl false) H3)
theorem pe_chain {op op' : CmpOp} {r r' : R2} (ho : OpR X (compareOp op) r) (ho' : OpR X (compareOp op') r') (ha : PE X a ta) (hb : PE X b tb) (hc : PE X c tc)
    (hm : lastMarks [op, op'] [b, c] = false := by with_unfolding_all rfl) : PE X (.Compare a [op, op'] [b, c] pos) (tChain r r' ta tb tc) := by
  intro pins s σ H Q I h
  refine Compare_chain (thn (ha pins s σ H _ I h) fun v s1 ⟨x, H1, I1, r1, q1⟩ => chain_link (thn (hb pins s1 σ H1 _ I1 q1) fun u s2 ⟨y, H2, I2, r2, q2⟩ =>
    thn (ho pins s2 σ H2 x y v u _ I2 r1 r2 q2) fun d s3 ⟨z, H3, I3, r3, k, e, q3⟩ => ?_)) hm
  subst e
  cases r3
  refine wpAny_truthy_bool ?_
  cases k with
  | false => exact ite_ff ⟨.bl false, H3, I3, rfl, q3⟩
  | true => exact ite_tt (chain_last (thn (hc pins s3 σ H3 _ I3 q3) fun w' s4 ⟨z', H4, I4, r4, q4⟩ => ho' pins s4 σ H4 y z' u w' Q I4 r2 r4 q4))
/-! ### truth -/
/-- a value's truth by the abstract heap -/
def TruV (K : PySem.W.Frag) (x : V) (H : Hp) (k : Bool) : Prop :=
  match x with
  | .non => k = false
  | .bl b => k = b
  | .int i => k = (i != 0)
  | .str y => y.length ≤ sizeLine ∧ k = ((y.length : Int) != 0)
  | .byt y => y.size ≤ sizeLine ∧ k = ((y.size : Int) != 0)
  | .ref p => (∃ xs, SqL K H p xs ∧ k = !xs.isEmpty) ∨ (∃ xs, SqT K H p xs ∧ k = !xs.isEmpty) ∨ ∃ kvs, H p = some (.dK kvs) ∧ k = !kvs.isEmpty
  | _ => False
theorem line63 : (sizeLine : Nat) < 2 ^ 63 := by rw [sizeLine_eq]; decide
/-! ### strs and bytes -/
theorem op_add_str : OpR X (binaryOp .Add) (fun x y H Q => ∃ i j, x = .str i ∧ y = .str j ∧ i.length + j.length ≤ sizeLine ∧ Q (.str (i ++ j)) H) := by
  intro pins s σ H x y v u Q I rx ry h
  obtain ⟨i, j, rfl, rfl, hz, q⟩ := h
  obtain ⟨t, rfl⟩ := rx
  obtain ⟨t', rfl⟩ := ry
  exact add_str (fun t' tk => ⟨.str (i ++ j), H, I.tok _, ⟨_, rfl⟩, q⟩) hz
def PlainIxT (b : Expr) : Prop := ∀ o i, subscripted b false o i = operate [o, i] (getItem o i)
/-! ### scalar builtins, by CallR -/
theorem vals1 {x : V} {us : List Value} (r : Vals [x] us) : ∃ u, us = [u] ∧ RelV x u := by
  cases r with
  | cons r1 r2 => cases r2; exact ⟨_, rfl, r1⟩
theorem vals2 {x y : V} {us : List Value} (r : Vals [x, y] us) : ∃ u w', us = [u, w'] ∧ RelV x u ∧ RelV y w' := by
  cases r with
  | cons r1 r2 =>
    cases r2 with
    | cons r3 r4 => cases r4; exact ⟨_, _, rfl, r1, r3⟩
theorem call_abs : CallR X (.builtin "abs") (fun xs H Q => ∃ i, xs = [.int i] ∧ Q (.int (if i < 0 then -i else i)) H) := by
  intro pins s σ H xs us Q I r h
  obtain ⟨i, rfl, q⟩ := h
  obtain ⟨u, rfl, t, rfl⟩ := vals1 r
  exact call_abs_int fun u tk => ⟨.int (if i < 0 then -i else i), H, I.tok _, ⟨_, rfl⟩, q⟩
theorem call_max2 (hc : X.calm = true) : CallR X (.builtin "max") (fun xs H Q => ∃ i j, xs = [.int i, .int j] ∧ Q (.int (if j > i then j else i)) H) := by
  intro pins s σ H xs us Q I r h
  obtain ⟨i, j, rfl, q⟩ := h
  obtain ⟨u, w', rfl, ⟨t, rfl⟩, ⟨t', rfl⟩⟩ := vals2 r
  refine max_two_ints (I.ok.hd hc) fun h' tk k => ⟨_, H, I.kept k, ?_, q⟩
  by_cases hj : j > i
  · rw [if_pos hj, if_pos hj]; exact ⟨_, rfl⟩
  · rw [if_neg hj, if_neg hj]; exact ⟨_, rfl⟩
theorem call_min2 (hc : X.calm = true) : CallR X (.builtin "min") (fun xs H Q => ∃ i j, xs = [.int i, .int j] ∧ Q (.int (if j < i then j else i)) H) := by
  intro pins s σ H xs us Q I r h
  obtain ⟨i, j, rfl, q⟩ := h
  obtain ⟨u, w', rfl, ⟨t, rfl⟩, ⟨t', rfl⟩⟩ := vals2 r
  refine min_two_ints (I.ok.hd hc) fun h' tk k => ⟨_, H, I.kept k, ?_, q⟩
  by_cases hj : j < i
  · rw [if_pos hj, if_pos hj]; exact ⟨_, rfl⟩
  · rw [if_neg hj, if_neg hj]; exact ⟨_, rfl⟩
/-- len of a str, a bytes, a list, a tuple -/
def LenV (K : PySem.W.Frag) (x : V) (H : Hp) (n : Nat) : Prop :=
  match x with
  | .str y => y.length ≤ sizeLine ∧ n = y.length
  | .byt y => y.size ≤ sizeLine ∧ n = y.size
  | .ref p => (∃ xs, SqL K H p xs ∧ n = xs.length) ∨ ∃ xs, SqT K H p xs ∧ n = xs.length
  | _ => False
end
end L2

namespace L2
open PySem PySem.Spec PyProof.Rows

/-! ### an instance, its attributes a map -/
structure ObjM (h : Heap) (x dx C : Addr) (mA : Str → Option Value) : Prop where
  obj : h.get? x = some (PySem.W.instObj C dx)
  ns : h.Ns1 dx mA
  ne : dx ≠ x

theorem lookIn_ns {h : Heap} {dx : Addr} {mA : Str → Option Value} (n : h.Ns1 dx mA) : ∃ od, h.get? dx = some od ∧ ∀ name, PySem.W.lookIn name od = some (mA name) := by
  obtain ⟨o, es, ep, ho, hd, hk, _, hm⟩ := n
  refine ⟨o, ho, fun name => ?_⟩
  have e := hm name
  unfold nsFind findBy at e
  rw [← Array.find?_toList] at e
  unfold PySem.W.lookIn
  rw [hd]
  dsimp only
  split
  · rename_i y q
    rw [q] at e
    exact congrArg some e
  · rename_i q
    rw [q] at e
    have a : es.toList.any (·.refKey) = false := by
      rw [List.any_eq_false]
      intro y hy
      obtain ⟨z, t, hkey⟩ := hk y (Array.mem_toList_iff.mp hy)
      simp [DictEntry.refKey, hkey]
    have a' : ¬ es.toList.any (·.refKey) = true := by rw [a]; exact Bool.false_ne_true
    rw [if_neg a']
    exact congrArg some e

theorem ObjM.look {h : Heap} {x dx C : Addr} {mA : Str → Option Value} (I : ObjM h x dx C mA) : ∃ od, PySem.W.InstAt h x (PySem.W.instObj C dx) C (some od) ∧ ∀ name, PySem.W.lookIn name od = some (mA name) :=
  let ⟨od, ho, hl⟩ := lookIn_ns I.ns
  ⟨od, ⟨I.obj, rfl, rfl, ho⟩, hl⟩

section
variable {prog : Program} {w : World} {A : Around} {E : Value → Shared → Prop} {s : Shared} {K : PySem.W.Frag} {x dx C f : Addr} {mA : Str → Option Value} {name : Str} {v : Value}

theorem get_map {expr : Bool} {Q : Value → Shared → Prop} (X : K.In s.heap) (I : ObjM s.heap x dx C mA) (hg : PySem.W.plainGet K C name = true) (hh : PySem.W.hasDictIn K C = true)
    (ha : PySem.W.findIn K (.ref C) name = some none) (hv : mA name = some v) (hv' : PySem.W.handedIn v = true) (h : Q v { s with toks := s.toks + 1 }) :
    wpAny (model prog w) A (getAttr (.ref x) name expr) Q E s := by
  obtain ⟨od, J, hl⟩ := I.look
  exact PySem.W.get_value X J (PySem.W.plainGet_of hg).1 (PySem.W.findObj_own hh ha rfl (by rw [hl, hv])) hv' h

theorem get_meth {pl : Sem Bool} {Q : Value × List Value → Shared → Prop} (X : K.In s.heap) (I : ObjM s.heap x dx C mA) (hg : PySem.W.plainGet K C name = true)
    (hf : PySem.W.findIn K (.ref C) name = some (some (.ref f))) (ht : PySem.W.isFn K (.ref f) = true) (hv : mA name = none) (h : Q (.ref f, [.ref x]) s) :
    wpAny (model prog w) A (getMethod (.ref x) name pl) Q E s := by
  obtain ⟨od, J, hl⟩ := I.look
  exact PySem.W.method_fn X J (PySem.W.plainGet_of hg).1 (PySem.W.plainGet_of hg).2 hf (beq_iff_eq.mp ht) (by show (PySem.W.lookIn name od).map (·.isSome) = some false; rw [hl, hv]; rfl) h

theorem set_map {ns : List Str} {Q : Unit → Shared → Prop} (X : K.In s.heap) (I : ObjM s.heap x dx C mA)
    (hs : PySem.W.findIn K (.ref C) "__setattr__" = some (some (.builtin "object.__setattr__"))) (hp : PySem.W.plainOver K C = true) (ht : PySem.W.takerIn K C name = some none) (hh : PySem.W.hasDictIn K C = true)
    (hw : PySem.Within mA ns) (hsz : ns.length ≤ sizeLine)
    (h : ∀ h', ObjM h' x dx C (fun y => if y = name then some v else mA y) → Heap.SameBut dx s.heap h' → Q () { s with heap := h', toks := s.toks + 2 }) :
    wpAny (model prog w) A (setAttr (.ref x) name v) Q E s := by
  obtain ⟨od, J, hl⟩ := I.look
  refine PySem.W.set_plain X J hs (PySem.W.osa_open (s := { s with toks := s.toks + 1 }) (r := none) X J hp ht fun b => ?_)
  obtain ⟨cd, hc, hd'⟩ := PySem.W.any_some hh
  have hx : s.heap.get? x = some ⟨.ref C, some dx, .plain, #[]⟩ := I.obj
  refine wpAny_bind (wpAny_pure (wpAny_bind (wpAny_bind (wpAny_loadPart hx (wpAny_bind (PySem.W.Looks.here (s := { s with toks := s.toks + 1 }) (PySem.W.looks_clsIn X hc) ?_))))))
  rw [hd']
  refine wpAny_pure (a := some dx) (wpAny_bind (wpAny_pure (wpAny_bind ?_)))
  refine wpAny_nsSet1 (s := { s with toks := s.toks + 1 }) I.ns fun h' hn2 hs2 => ?_
  obtain ⟨oD, esD, epD, hoD, hdD, hcD⟩ := hn2.count (PySem.Within.cons name v hw)
  refine wpAny_bind (wpAny_lookBehind hoD (by rw [hdD]; exact pastItsLine_dict (Nat.le_trans hcD (by rw [List.length_cons]; omega))) ?_)
  exact wpAny_pure (h _ ⟨(hs2.2 _ (Ne.symm I.ne)).trans I.obj, hn2, I.ne⟩ hs2)

/-- C(..): the dict at the heap's end, the instance behind it; then its __init__ -/
theorem make_map {R : Result → Shared → Prop} {vs : List Value} {kw : List (Str × Value)} (X : K.In s.heap) (hm : PySem.W.makesIn K C = true)
    (hi : PySem.W.findIn K (.ref C) "__init__" = some (some (.ref f))) (hf : PySem.W.typeIn K (.ref f) = some (.type "function"))
    (h : codeAny (model prog w) (A.under (.builtin "type.__call__" ⟨.ref C :: vs, kw⟩)) (.call (.ref f) ⟨.ref (s.heap.objs.size + 1) :: vs, kw⟩) (PySem.W.InitBack (s.heap.objs.size + 1) R)
      { s with heap := (s.heap.push PySem.W.emptyDict).push (PySem.W.instObj C s.heap.objs.size) }) :
    codeAny (model prog w) A (.call (.ref C) ⟨vs, kw⟩) R s := by
  obtain ⟨hh, g, d, t, os⟩ := s
  exact PySem.W.make_core (PySem.W.makes_of X hm) (PySem.W.looks_findIn X hi) (fun self => PySem.W.bind_fn X self hf) (.inl rfl) h
end

/-! ### the attributes as a list of pairs -/
def putF (f : Str) (v : V) : List (Str × V) → List (Str × V)
  | [] => [(f, v)]
  | (g, x) :: r => if g = f then (g, v) :: r else (g, x) :: putF f v r
theorem lookup_putF (f g : Str) (v : V) : ∀ fs : List (Str × V), (putF f v fs).lookup g = if g = f then some v else fs.lookup g
  | [] => by
    show List.lookup g [(f, v)] = _
    by_cases h : g = f
    · have hb : (g == f) = true := beq_iff_eq.mpr h
      simp only [List.lookup, hb, if_pos h]
    · have hb : (g == f) = false := beq_eq_false_iff_ne.mpr h
      simp only [List.lookup, hb, if_neg h]
  | (k, x) :: r => by
    have ih := lookup_putF f g v r
    rw [show putF f v ((k, x) :: r) = (if k = f then (k, v) :: r else (k, x) :: putF f v r) from rfl]
    by_cases hk : k = f
    · rw [if_pos hk]
      by_cases h : g = k
      · have hb : (g == k) = true := beq_iff_eq.mpr h
        simp only [List.lookup, hb, if_pos (h.trans hk)]
      · have hb : (g == k) = false := beq_eq_false_iff_ne.mpr h
        simp only [List.lookup, hb, if_neg (fun e : g = f => h (e.trans hk.symm))]
    · rw [if_neg hk]
      by_cases h : g = k
      · have hb : (g == k) = true := beq_iff_eq.mpr h
        simp only [List.lookup, hb, if_neg (fun e : g = f => hk (h.symm.trans e))]
      · have hb : (g == k) = false := beq_eq_false_iff_ne.mpr h
        simp only [List.lookup, hb]
        exact ih
theorem keys_putF (f : Str) (v : V) : ∀ fs : List (Str × V), f ∈ (putF f v fs).map (·.1) ∧ ∀ g, g ∈ fs.map (·.1) → g ∈ (putF f v fs).map (·.1)
  | [] => ⟨by simp [putF], fun g h => by simp at h⟩
  | (k, x) :: r => by
    obtain ⟨i1, i2⟩ := keys_putF f v r
    rw [show putF f v ((k, x) :: r) = (if k = f then (k, v) :: r else (k, x) :: putF f v r) from rfl]
    by_cases hk : k = f
    · rw [if_pos hk]
      subst hk
      exact ⟨by simp, fun g h => by simpa using h⟩
    · rw [if_neg hk]
      refine ⟨?_, fun g h => ?_⟩
      · rw [List.map_cons]
        exact List.mem_cons_of_mem _ i1
      · rw [List.map_cons] at h ⊢
        rcases List.mem_cons.mp h with e | e
        · exact List.mem_cons.mpr (.inl e)
        · exact List.mem_cons_of_mem _ (i2 g e)
theorem length_putF (f : Str) (v : V) : ∀ fs : List (Str × V), (putF f v fs).length ≤ fs.length + 1
  | [] => by simp [putF]
  | (k, x) :: r => by
    have ih := length_putF f v r
    rw [show putF f v ((k, x) :: r) = (if k = f then (k, v) :: r else (k, x) :: putF f v r) from rfl]
    by_cases hk : k = f
    · rw [if_pos hk, List.length_cons, List.length_cons]; omega
    · rw [if_neg hk, List.length_cons, List.length_cons]; omega

theorem RelO.some_of {v : V} {o : Option Value} (r : RelO (some v) o) : ∃ u, o = some u ∧ RelV v u := by
  cases o with
  | none => exact (show False from r).elim
  | some u => exact ⟨u, rfl, r⟩
theorem RelO.none_of {o : Option Value} (r : RelO none o) : o = none := by
  cases o with
  | none => rfl
  | some u => exact (show False from r).elim
theorem handed_of {v : V} {u : Value} (r : RelV v u) : PySem.W.handedIn u = true := by
  cases v with
  | non => cases (show u = Value.none from r); rfl
  | bl b => cases (show u = Value.bool b from r); rfl
  | int i => obtain ⟨t, e⟩ := (show ∃ t, u = Value.int i t from r); cases e; rfl
  | str x => obtain ⟨t, e⟩ := (show ∃ t, u = Value.str x t from r); cases e; rfl
  | byt b => obtain ⟨t, e⟩ := (show ∃ t, u = Value.bytes b t from r); cases e; rfl
  | flt b => obtain ⟨t, e⟩ := (show ∃ t, u = Value.float b t from r); cases e; rfl
  | ref a => cases (show u = Value.ref a from r); rfl
  | ty n => cases (show u = Value.type n from r); rfl

section
variable {P : Program} {w : World} {H H' : Hp} {h h' : Heap} {a C dx : Addr} {fs fs' : List (Str × V)}
theorem ins_get (hok : HOk P w H h) (e : H a = some (.ins C dx fs)) : ∃ mA, ObjM h a dx C mA ∧ (∀ f, RelO (fs.lookup f) (mA f)) ∧ PySem.Within mA (fs.map (·.1)) ∧ fs.length ≤ 1000 ∧ H dx = some (.own a) := by
  obtain ⟨d, z, ne, ob, mA, n, r, q⟩ := (show ObjOk P w H h a (.ins C dx fs) from hok a _ e)
  exact ⟨mA, ⟨ob, n, ne⟩, r, q, z, d⟩
end

/-! ### what of the text a class must have -/
structure Cls (K : PySem.W.Frag) (C : Addr) : Prop where
  pg : PySem.W.plainGet K C Str.empty = true
  hd : PySem.W.hasDictIn K C = true
  po : PySem.W.plainOver K C = true
  sa : PySem.W.findIn K (.ref C) "__setattr__" = some (some (.builtin "object.__setattr__"))
theorem Cls.get {K : PySem.W.Frag} {C : Addr} (c : Cls K C) (f : Str) : PySem.W.plainGet K C f = true := c.pg
/-- no class of it has the name -/
def NoAttr (K : PySem.W.Frag) (C : Addr) (f : Str) : Prop := PySem.W.findIn K (.ref C) f = some none
theorem NoAttr.taker {K : PySem.W.Frag} {C : Addr} {f : Str} (n : NoAttr K C f) : PySem.W.takerIn K C f = some none := by
  unfold PySem.W.takerIn
  rw [show PySem.W.findIn K (.ref C) f = some none from n]
  rfl
/-- a constant of the class -/
structure Con (K : PySem.W.Frag) (C : Addr) (f : Str) (v : V) (u : Value) : Prop where
  at_ : PySem.W.findIn K (.ref C) f = some (some u)
  rel : RelV v u
  get : PySem.W.specialIn K u "__get__" = some none
  cp : PySem.W.copiedNames.contains f = false
/-- a method: a plain def of the class or of one above it -/
structure Meth (K : PySem.W.Frag) (C : Addr) (m : Str) (f : Addr) : Prop where
  at_ : PySem.W.findIn K (.ref C) m = some (some (.ref f))
  fn : PySem.W.isFn K (.ref f) = true
  kp : PySem.W.keepIn K (.ref f) = true

section
variable {X : Cx} {pins : List (Addr × Obj)} {σ : St} {H : Hp} {s : Shared} {a C dx : Addr} {fs : List (Str × V)} {f : Str} {v : V} {A : Around} {E : Value → Shared → Prop}

theorem getattr_ok {b : Bool} {Q : Value → Shared → Prop} (I : Inv X pins σ H s) (e : H a = some (.ins C dx fs)) (c : Cls X.K C) (n : NoAttr X.K C f) (l : fs.lookup f = some v)
    (h : ∀ u s', Inv X pins σ H s' → RelV v u → Q u s') : wpAny (model X.prog X.w) A (getAttr (.ref a) f b) Q E s := by
  obtain ⟨mA, O, r, _, _, _⟩ := ins_get I.hok e
  obtain ⟨u, hu, ru⟩ := RelO.some_of (v := v) (o := mA f) (by rw [← l]; exact r f)
  exact get_map I.kIn O (c.get f) c.hd n hu (handed_of ru) (h u _ (I.tok _) ru)

theorem getmeth_ok {m : Str} {g : Addr} {pl : Sem Bool} {Q : Value × List Value → Shared → Prop} (I : Inv X pins σ H s) (e : H a = some (.ins C dx fs)) (c : Cls X.K C) (k : Meth X.K C m g) (l : fs.lookup m = none)
    (h : Q (.ref g, [.ref a]) s) : wpAny (model X.prog X.w) A (getMethod (.ref a) m pl) Q E s := by
  obtain ⟨mA, O, r, _, _, _⟩ := ins_get I.hok e
  have hn : mA m = none := RelO.none_of (by rw [← l]; exact r m)
  exact get_meth I.kIn O (c.get m) k.at_ k.fn hn h

theorem setattr_ok {y : V} {u : Value} {Q : Unit → Shared → Prop} (I : Inv X pins σ H s) (e : H a = some (.ins C dx fs)) (c : Cls X.K C) (n : NoAttr X.K C f) (hl : fs.length < 1000) (ry : RelV y u)
    (h : ∀ s', Inv X pins σ (upd H a (.ins C dx (putF f y fs))) s' → Q () s') : wpAny (model X.prog X.w) A (setAttr (.ref a) f u) Q E s := by
  obtain ⟨mA, O, r, wi, _, ho⟩ := ins_get I.hok e
  have hz : (fs.map (·.1)).length ≤ sizeLine := by rw [List.length_map, sizeLine_eq]; omega
  refine set_map I.kIn O c.sa c.po n.taker c.hd wi hz fun h' O' sb => h _ ?_
  have hd : ∃ o, h'.get? dx = some o := let ⟨o, _, _, e', _⟩ := O'.ns; ⟨o, e'⟩
  refine I.write (x := a) (e := dx) (by rw [e]; exact True.intro) (.inr ho) (fun b q hb z => (sb.2 b hb).trans z) hd ?_
  refine ⟨by rw [upd_ne O.ne]; exact ho, ?_, O.ne, O'.obj, _, O'.ns, fun g => ?_, fun g hg => ?_⟩
  · have := length_putF f y fs; omega
  · show RelO ((putF f y fs).lookup g) (if g = f then some u else mA g)
    rw [lookup_putF]
    by_cases q : g = f
    · rw [if_pos q, if_pos q]; exact ry
    · rw [if_neg q, if_neg q]; exact r g
  · by_cases q : g = f
    · rw [q]; exact (keys_putF f y fs).1
    · refine (keys_putF f y fs).2 g (wi g fun z => hg ?_)
      show (if g = f then some u else mA g) = none
      rw [if_neg q]; exact z

/-- a new instance, tracked, without attributes -/
theorem Inv.made (I : Inv X pins σ H s) : Inv X pins σ (upd (upd H s.heap.objs.size (.own (s.heap.objs.size + 1))) (s.heap.objs.size + 1) (.ins C s.heap.objs.size []))
    { s with heap := (s.heap.push PySem.W.emptyDict).push (PySem.W.instObj C s.heap.objs.size) } := by
  have e1 : (s.heap.push PySem.W.emptyDict).get? s.heap.objs.size = some PySem.W.emptyDict := Heap.get?_push_size s.heap rfl
  have e2 : ((s.heap.push PySem.W.emptyDict).push (PySem.W.instObj C s.heap.objs.size)).get? (s.heap.objs.size + 1) = some (PySem.W.instObj C s.heap.objs.size) := by
    have := Heap.get?_push_size (s.heap.push PySem.W.emptyDict) (o := PySem.W.instObj C s.heap.objs.size) rfl
    rwa [Heap.size_push] at this
  have e3 : (s.heap.push PySem.W.emptyDict).Ns s.heap.objs.size (fun _ => none) := ⟨PySem.W.emptyDict, #[], _, e1, rfl, (fun e he => absurd he (by simp)), fun _ => rfl⟩
  have I1 := I.laid (a := s.heap.objs.size) (o := .own (s.heap.objs.size + 1)) (h' := s.heap.push PySem.W.emptyDict) (t' := s.toks) (fun b u q => Heap.get?_push_of_some _ q) (Nat.le_refl _) ⟨_, e1⟩
  refine I1.laid (a := s.heap.objs.size + 1) (o := .ins C s.heap.objs.size []) (t' := s.toks) (fun b u q => Heap.get?_push_of_some _ q) (Nat.le_of_eq (Heap.size_push _ _)) ?_
  have ne : s.heap.objs.size ≠ s.heap.objs.size + 1 := Nat.ne_of_lt (Nat.lt_succ_self _)
  refine ⟨by rw [upd_ne ne, upd_same], Nat.zero_le _, ne, e2, fun _ => none, (Heap.Ns1.of_empty e3).at fun o q => Heap.get?_push_of_some _ q, fun _ => True.intro, fun y hy => absurd rfl hy⟩

/-- e.f where nothing but the object is asked: through attributeBase (super) and the last hold -/
theorem attr_of {prog : Program} {w : World} {env : Env} {e : Expr} {f : Str} {pos : Pos} {s : Shared} {Q : Value → Shared → Prop} (hb : attributeBase e f env (eval e env) = eval e env)
    (h : wpAny (model prog w) A (eval e env) (fun o s₁ => wpAny (model prog w) A (getAttr o f true) Q E s₁) E s) : wpAny (model prog w) A (eval (.Attribute e f pos) env) Q E s :=
  Attribute_any_ h (by rw [arm_eval_Attribute, hb])
end

/-! ### readings and rules -/
/-- e.f, an attribute of the instance -/
def tFld (K : PySem.W.Frag) (ta : TE) (f : Str) : TE := fun σ H Q => ta σ H fun x H1 => ∃ a C dx fs v, x = .ref a ∧ H1 a = some (.ins C dx fs) ∧ Cls K C ∧ NoAttr K C f ∧ fs.lookup f = some v ∧ Q v H1
/-- e.f, a constant of the class -/
def tCon (K : PySem.W.Frag) (ta : TE) (f : Str) : TE := fun σ H Q => ta σ H fun x H1 => ∃ a C dx fs v u, x = .ref a ∧ H1 a = some (.ins C dx fs) ∧ Cls K C ∧ Con K C f v u ∧ fs.lookup f = none ∧ Q v H1
/-- e.f = value -/
def sFld (K : PySem.W.Frag) (ta tv : TE) (f : Str) : TS := fun D σ H => tv σ H fun y H1 => ta σ H1 fun x H2 => ∃ a C dx fs, x = .ref a ∧ H2 a = some (.ins C dx fs) ∧ Cls K C ∧ NoAttr K C f ∧ fs.length < 1000 ∧
  D.nx σ (upd H2 a (.ins C dx (putF f y fs)))
/-- an augmented operator on two values -/
def InOp (X : Cx) (op : Operator) (rd : V → V → Hp → VK → Prop) : Prop :=
  ∀ (pins : List (Addr × Obj)) (s : Shared) (σ : St) (H : Hp) (x y : V) (u v : Value) (Q : VK), Inv X pins σ H s → RelV x u → RelV y v → rd x y H Q → wpAny (model X.prog X.w) X.A (inplaceOp op u v) (EP X pins σ Q) X.xe s
/-- e.f op= value -/
def sFldAug (K : PySem.W.Frag) (ta tv : TE) (rd : V → V → Hp → VK → Prop) (f : Str) : TS := fun D σ H => ta σ H fun x H1 => ∃ a C dx fs v, x = .ref a ∧ H1 a = some (.ins C dx fs) ∧ Cls K C ∧ NoAttr K C f ∧ fs.lookup f = some v ∧
  tv σ H1 fun y H2 => rd v y H2 fun z H3 => ∃ dx' fs', H3 a = some (.ins C dx' fs') ∧ fs'.length < 1000 ∧ D.nx σ (upd H3 a (.ins C dx' (putF f z fs')))

section
variable {X : Cx} {o e value : Expr} {f : Str} {pos pos' tpos : Pos} {ta tv : TE}
theorem pe_fld (he : PE X e ta) (hb : attributeBase e f X.env (eval e X.env) = eval e X.env) : PE X (.Attribute e f pos) (tFld X.K ta f) := by
  intro pins s σ H Q I h
  refine attr_of hb (thn (he pins s σ H _ I h) fun u s1 ⟨x, H1, I1, rx, a, C, dx, fs, v, ex, ea, c, n, l, q⟩ => ?_)
  subst ex
  obtain rfl : u = Value.ref a := rx
  exact getattr_ok I1 ea c n l fun u' s2 I2 ru => ⟨v, H1, I2, ru, q⟩
theorem ps_fld (ha : PE X o ta) (hv : PE X value tv) (hs : swapsWith value (some (.Attribute o f pos')) pos.line X.env = pure false) : PS X (.Assign [.Attribute o f pos'] value pos) (sFld X.K ta tv f) := by
  intro pins s σ H D I h
  refine plainObj_wpAny_Assign_Attribute (thn (hv pins s σ H _ I h) fun u s1 ⟨y, H1, I1, ry, q⟩ => thn (ha pins s1 σ H1 _ I1 q) fun ov s2 ⟨x, H2, I2, rx, a, C, dx, fs, ex, ea, c, n, l, q2⟩ => ?_) hs
  subst ex
  obtain rfl : ov = Value.ref a := rx
  exact setattr_ok I2 ea c n l ry fun s3 I3 => ⟨σ, _, I3, q2⟩
def rAdd : V → V → Hp → VK → Prop := fun x y H Q => ∃ i j, x = .int i ∧ y = .int j ∧ Q (.int (i + j)) H
def rSub : V → V → Hp → VK → Prop := fun x y H Q => ∃ i j, x = .int i ∧ y = .int j ∧ Q (.int (i - j)) H
end

/-! ### isinstance -/
section
variable {X : Cx} {pins : List (Addr × Obj)} {σ : St} {H : Hp} {s : Shared} {A : Around} {E : Value → Shared → Prop} {Q : Value → Shared → Prop} {c : Value} {b : Bool}
/-- the type of a value, as the fragment's deciders take it; for an instance its class -/
inductive TyOf (K : PySem.W.Frag) (H : Hp) : V → Value → Prop where
  | non : TyOf K H .non (.type "NoneType")
  | bl (x : Bool) : TyOf K H (.bl x) (.type "bool")
  | int (i : Int) : TyOf K H (.int i) (.type "int")
  | str (x : Str) : TyOf K H (.str x) (.type "str")
  | flt (x : UInt64) : TyOf K H (.flt x) (.type "float")
  | lst {a : Addr} {xs : List V} (e : H a = some (.lst xs)) : TyOf K H (.ref a) (.type "list")
  | frz {a : Addr} {o : Obj} {xs : List V} (e : H a = some (.frz o (.lst xs))) : TyOf K H (.ref a) (.type "list")
  | tup {a : Addr} {xs : List V} (e : H a = some (.tup xs)) : TyOf K H (.ref a) (.type "tuple")
  | dK {a : Addr} {kvs : List (Key × V)} (e : H a = some (.dK kvs)) : TyOf K H (.ref a) (.type "dict")
  | dT {a : Addr} {kvs : List (List Key × V)} (e : H a = some (.dT kvs)) : TyOf K H (.ref a) (.type "dict")
  | ins {a C dx : Addr} {fs : List (Str × V)} (e : H a = some (.ins C dx fs)) (cl : Cls K C) (ha : PySem.W.findIn K (.ref C) "__class__" = some (some (.builtin "object.__class__")))
      (hn : PySem.W.specialIn K (.builtin "object.__class__") "__get__" = some (some (.builtin "getset_descriptor.__get__"))) (htk : PySem.W.takesIn K (.builtin "object.__class__") = some true)
      (hm : PySem.W.mroIn K C (.type "object") = some true) : TyOf K H (.ref a) (.ref C)
/-- isinstance(x, c) for one class c, a built-in or an own one: kitOne's answer -/
theorem isinst_ok {x : V} {u t : Value} (I : Inv X pins σ H s) (rx : RelV x u) (ty : TyOf X.K H x t) (e : PySem.W.kitOne X.K t c = some b) (h : ∀ tk, Q (.bool b) { s with toks := tk }) :
    wpAny (model X.prog X.w) A (call (.builtin "isinstance") [u, c]) Q E s := by
  cases ty with
  | non => cases (show u = Value.none from rx); exact PySem.W.kia_one PySem.W.kitx_none I.kIn True.intro e (fun z => nomatch z) h
  | bl y => cases (show u = Value.bool y from rx); exact PySem.W.kia_one PySem.W.kitx_bool I.kIn True.intro e (fun z => nomatch z) h
  | int i => obtain ⟨t, q⟩ := (show ∃ t, u = Value.int i t from rx); cases q; exact PySem.W.kia_one PySem.W.kitx_int I.kIn True.intro e (fun z => nomatch z) h
  | str y => obtain ⟨t, q⟩ := (show ∃ t, u = Value.str y t from rx); cases q; exact PySem.W.kia_one PySem.W.kitx_str I.kIn True.intro e (fun z => nomatch z) h
  | flt y => obtain ⟨t, q⟩ := (show ∃ t, u = Value.float y t from rx); cases q; exact PySem.W.kia_one PySem.W.kitx_float I.kIn True.intro e (fun z => nomatch z) h
  | @lst a xs ea =>
    cases (show u = Value.ref a from rx)
    obtain ⟨_, _, n, _, h1⟩ := (show ObjOk X.prog X.w H s.heap a (.lst xs) from I.hok a _ ea)
    exact PySem.W.kia_one PySem.W.kitx_list I.kIn ⟨_, h1, rfl⟩ e (fun z => nomatch z) h
  | @frz a ob xs ea =>
    cases (show u = Value.ref a from rx)
    obtain ⟨_, _, _, n, _, h1⟩ := (show ObjOk X.prog X.w H s.heap a (.frz ob (.lst xs)) from I.hok a _ ea)
    exact PySem.W.kia_one PySem.W.kitx_list I.kIn ⟨_, h1, rfl⟩ e (fun z => nomatch z) h
  | @tup a xs ea =>
    cases (show u = Value.ref a from rx)
    obtain ⟨_, _, _, p⟩ := (show ObjOk X.prog X.w H s.heap a (.tup xs) from I.hok a _ ea)
    obtain ⟨o, h1, h2, _⟩ := p
    exact PySem.W.kia_one PySem.W.kitx_tuple I.kIn ⟨o, h1, h2⟩ e (fun z => nomatch z) h
  | @dK a kvs ea =>
    cases (show u = Value.ref a from rx)
    obtain ⟨_, _, vs, _, p⟩ := (show ObjOk X.prog X.w H s.heap a (.dK kvs) from I.hok a _ ea)
    obtain ⟨o, es, ep, h1, h2, _⟩ := p
    exact PySem.W.kia_one PySem.W.kitx_dict I.kIn ⟨o, h1, h2.1⟩ e (fun z => nomatch z) h
  | @dT a kvs ea =>
    cases (show u = Value.ref a from rx)
    obtain ⟨_, _, xs, _, o, es, ep, h1, h2, _⟩ := (show ObjOk X.prog X.w H s.heap a (.dT kvs) from I.hok a _ ea)
    exact PySem.W.kia_one PySem.W.kitx_dict I.kIn ⟨o, h1, h2.1⟩ e (fun z => nomatch z) h
  | @ins a C dx fs ea cl ha hn htk hm =>
    cases (show u = Value.ref a from rx)
    obtain ⟨mA, O, _⟩ := ins_get I.hok ea
    obtain ⟨od, J, _⟩ := O.look
    exact PySem.W.kia_one (PySem.W.kitx_own (cl.get _) cl.hd ha hn htk hm) I.kIn J e (fun z => nomatch z) h
end
end L2

namespace L2
open PySem PySem.Spec PyProof.Rows

/-! ### room -/
structure Room (k : Nat) (A : Around) : Prop where
  hd : A.handled = none
  dp : A.depth + 3 * k + 5 < recursionLimit
  un : A.units + 16 * k + 200 < cLine
  gd : A.guards = some []
theorem Room.mono {j k : Nat} {A : Around} (r : Room k A) (h : j ≤ k) : Room j A := ⟨r.hd, by have := r.dp; omega, by have := r.un; omega, r.gd⟩
theorem Room.deeper {k : Nat} {A : Around} (r : Room (k + 1) A) (env : Env) : Room k (A.deeper env) :=
  ⟨r.hd, by have := r.dp; show A.depth + 1 + 3 * k + 5 < _; omega, by have := r.un; show A.units + 3 + 16 * k + 200 < _; omega, r.gd⟩
theorem Room.in1 {k : Nat} {A : Around} (r : Room (k + 1) A) : Room k A.in1 :=
  ⟨r.hd, by have := r.dp; show A.depth + 3 * k + 5 < _; omega, by have := r.un; show A.units + 1 + 16 * k + 200 < _; omega, r.gd⟩
theorem make_depth {A : Around} {C : Addr} {us : List Value} {kw : List (Str × Value)} : (A.under (.builtin "type.__call__" ⟨.ref C :: us, kw⟩)).depth = A.depth + 1 := by
  first | rfl | simp [Around.under, Code.weight, Code.isCreation, Code.isGuard, Code.isCaller, Code.frames, Code.isFrame, guardIds]
theorem make_units {A : Around} {C : Addr} {us : List Value} {kw : List (Str × Value)} : (A.under (.builtin "type.__call__" ⟨.ref C :: us, kw⟩)).units = A.units + 1 := by
  first | rfl | simp [Around.under, Code.cUnits, Code.frames, Code.isFrame]
theorem make_guards {A : Around} {C : Addr} {us : List Value} {kw : List (Str × Value)} : (A.under (.builtin "type.__call__" ⟨.ref C :: us, kw⟩)).guards = A.guards := by
  first | rfl | simp [Around.under, Code.guards, Code.isGuard, pushGuards, guardIds]
theorem Room.make {k : Nat} {A : Around} (r : Room (k + 1) A) (C : Addr) (us : List Value) (kw : List (Str × Value)) : Room k (A.under (.builtin "type.__call__" ⟨.ref C :: us, kw⟩)) :=
  ⟨r.hd, by have := r.dp; rw [make_depth]; omega, by have := r.un; rw [make_units]; omega, by rw [make_guards]; exact r.gd⟩
theorem Room.depth {k : Nat} {A : Around} (r : Room k A) : A.depth < recursionLimit := by have := r.dp; omega
theorem Room.units {k : Nat} {A : Around} (r : Room k A) : A.units + 64 < cLine := by have := r.un; omega
theorem Room.units0 {k : Nat} {A : Around} (r : Room k A) : A.units < cLine := by have := r.un; omega

/-! ### argument lists and displays -/
def tNil : TA := fun _ H Q => Q [] H
def tCons (ta : TE) (tr : TA) : TA := fun σ H Q => ta σ H fun x H1 => tr σ H1 fun xs H2 => Q (x :: xs) H2
section
variable {X : Cx} {e : Expr} {es : List Expr} {te : TE} {t : TA} {pos : Pos}
theorem pa_nil : PA X [] tNil := fun _ _ _ _ H Q I h => Calls.spliced_nil ⟨[], H, I, .nil, h⟩
theorem pa_cons (ha : PE X e te) (hr : PA X es t) (hs : starEach (e :: es) X.env = (false, eval e X.env) :: starEach es X.env := by rfl) : PA X (e :: es) (tCons te t) := by
  intro pos pins s σ H Q I h
  rw [hs]
  show wpAny _ _ (spliced ((false, eval e X.env) :: backTo pos (starEach es X.env))) _ _ s
  refine Calls.spliced_cons (thn (ha pins s σ H _ I h) fun u s1 ⟨x, H1, I1, r1, q1⟩ => ?_)
  exact thn (hr pos pins s1 σ H1 _ I1 q1) fun us s2 ⟨xs, H2, I2, r2, q2⟩ => ⟨x :: xs, H2, I2, .cons r1 r2, q2⟩

/-- a tuple, a list of written items -/
def tTup (t : TA) : TE := fun σ H Q => t σ H fun xs H1 => xs.length ≤ sizeLine ∧ ∀ p, H1 p = none → Q (.ref p) (upd H1 p (.tup xs))
def tLst (t : TA) : TE := fun σ H Q => t σ H fun xs H1 => xs.length ≤ sizeLine ∧ ∀ p, H1 p = none → Q (.ref p) (upd H1 p (.lst xs))
end

/-! ### what a def promises -/
/-- a def's promise: the bound arguments in the parameters' order, the heap, the wanted end, the wanted exception -/
abbrev Sp := List V → Hp → VK → XK → Prop
/-- how an exception lies behind a call (file 08 gives it): the callers' frames, abstract heap and state ahead of the call, the wish, the exception, the state -/
abbrev CXT := List Env → Hp → Shared → XK → Value → Shared → Prop

/-- the state at a call -/
structure Env0 (P : Program) (w : World) (K : PySem.W.Frag) (mg : Str → Option Value) (base : Heap) (A : Around) (outer : List Env) (s : Shared) (H : Hp) : Prop where
  frames : A.frames = some outer
  mod : Mod K mg base
  bs : ∀ b o, base.get? b = some o → s.heap.get? b = some o ∧ H b = none
  bsz : base.objs.size ≤ s.heap.objs.size
  funs : s.heap.FunFrames base outer
  frf : ∀ b ∈ frs outer, H b = none
  hok : HOk P w H s.heap
  bare : AllBare s.gens
/-- a call's end -/
def CE (outer : List Env) (P : Program) (w : World) (H : Hp) (s : Shared) (Q : VK) (u : Value) (s' : Shared) : Prop :=
  ∃ v H', s'.os = s.os ∧ AllBare s'.gens ∧ Un (frs outer) [] H H' s.heap s'.heap ∧ HOk P w H' s'.heap ∧ RelV v u ∧ Q v H'
def CR (CX : CXT) (outer : List Env) (P : Program) (w : World) (H : Hp) (s : Shared) (Q : VK) (E : XK) (r : Result) (s' : Shared) : Prop :=
  match r with
  | .ok (.ret u) => CE outer P w H s Q u s'
  | .ok _ => False
  | .error e => CX outer H s E e s'
structure FnOk (P : Program) (w : World) (K : PySem.W.Frag) (mg : Str → Option Value) (base : Heap) (CX : CXT) (k : Nat) (f : Addr) (fd : FuncData) (ps : List Str) (sp : Sp) : Prop where
  len : ∀ vs H Q E, sp vs H Q E → vs.length = ps.length
  run : ∀ (A : Around) (outer : List Env) (s : Shared) (H : Hp) (args : Args) (us : List Value) (vs : List V) (Q : VK) (E : XK), Room k A → Env0 P w K mg base A outer s H → BindsTo s fd args (ps.zip us) → Vals vs us → sp vs H Q E →
    codeAny (model P w) A (.call (.ref f) args) (CR CX outer P w H s Q E) s
theorem Env0.make {P : Program} {w : World} {K : PySem.W.Frag} {mg : Str → Option Value} {base : Heap} {A : Around} {outer : List Env} {s : Shared} {H : Hp} (e : Env0 P w K mg base A outer s H) (C : Addr) (us : List Value) (kw : List (Str × Value)) :
    Env0 P w K mg base (A.under (.builtin "type.__call__" ⟨.ref C :: us, kw⟩)) outer s H := ⟨by first | exact e.frames | (simpa [Around.under, Code.envs, Code.isFrame, pushEnvs] using e.frames), e.mod, e.bs, e.bsz, e.funs, e.frf, e.hok, e.bare⟩
theorem Env0.in1 {P : Program} {w : World} {K : PySem.W.Frag} {mg : Str → Option Value} {base : Heap} {A : Around} {outer : List Env} {s : Shared} {H : Hp} (e : Env0 P w K mg base A outer s H) :
    Env0 P w K mg base A.in1 outer s H := ⟨e.frames, e.mod, e.bs, e.bsz, e.funs, e.frf, e.hok, e.bare⟩

section
variable {X : Cx} {pins : List (Addr × Obj)} {σ : St} {H : Hp} {s s' : Shared}
/-- from a body: what a callee wants -/
theorem Inv.env0 (I : Inv X pins σ H s) : Env0 X.prog X.w X.K X.mg X.base X.A X.stack s H :=
  ⟨I.ok.frames, I.ok.mod, I.bs, Nat.le_trans I.ok.bsz I.sz, I.stack, I.stkFree, I.hok, I.bare⟩
/-- behind a call -/
theorem Inv.after {Q : VK} {u : Value} (I : Inv X pins σ H s) (h : CE X.stack X.prog X.w H s Q u s') : EP X pins σ Q u s' := by
  obtain ⟨v, H', os, bare, un, hok, r, q⟩ := h
  obtain ⟨hh, g, d, t, os'⟩ := s'
  obtain rfl : os' = s.os := os
  exact ⟨v, H', I.call (h' := hh) (g' := g) (d' := d) (t' := t) (ch := []) un hok bare (fun b z => absurd z (by simp)), r, q⟩
end

/-! ### calls -/
/-- f(..): the written arguments, then the defaults dvs; E: what is wanted of an exception -/
def tCall (sp : Sp) (dvs : List V) (E : XK) (t : TA) : TE := fun σ H Q => t σ H fun vs H1 => sp (vs ++ dvs) H1 Q E
/-- o.m(..) of an instance of the class at C -/
def tMeth (C : Addr) (m : Str) (sp : Sp) (dvs : List V) (E : XK) (ta : TE) (t : TA) : TE := fun σ H Q => ta σ H fun x H1 => ∃ a dx fs, x = .ref a ∧ H1 a = some (.ins C dx fs) ∧ fs.lookup m = none ∧
  t σ H1 fun vs H2 => sp (x :: (vs ++ dvs)) H2 Q E
/-- C(..): a new instance and its dict, then __init__ -/
def tMake (C : Addr) (sp : Sp) (dvs : List V) (E : XK) (t : TA) : TE := fun σ H Q => t σ H fun vs H1 => ∀ x dx, H1 x = none → H1 dx = none → dx ≠ x →
  sp (.ref x :: (vs ++ dvs)) (upd (upd H1 dx (.own x)) x (.ins C dx [])) (fun v H2 => v = .non ∧ Q (.ref x) H2) E

/-- how the parameters are bound: us the positional arguments, kw the keywords' values by name, ds the defaults that fill up -/
def Binds (K : PySem.W.Frag) (fd : FuncData) (ps : List Str) (ds : List Value) : Prop :=
  ∀ (s : Shared) (us : List Value), K.In s.heap → (us ++ ds).length = ps.length → BindsTo s fd ⟨us, []⟩ (ps.zip (us ++ ds))
/-- every parameter is given -/
theorem Binds.all {K : PySem.W.Frag} {fd : FuncData} {ps : List Str} (h : ∀ us : List Value, us.length = ps.length → bindArgs fd ⟨us, []⟩ = pure (ps.zip us)) : Binds K fd ps [] := fun s us _ hl => by
  rw [List.append_nil] at hl ⊢
  exact .of_eq (h us hl)

/-- an exception of a callee reaches what this body wants of exceptions -/
def Passes (CX : CXT) (X : Cx) (E : XK) : Prop := ∀ (pins : List (Addr × Obj)) (σ : St) (H : Hp) (s : Shared) (e : Value) (s' : Shared), Inv X pins σ H s → CX X.stack H s E e s' → X.xe e s'

section
variable {X : Cx} {CX : CXT} {k : Nat} {f C : Addr} {fd : FuncData} {ps : List Str} {sp : Sp} {dvs : List V} {ds : List Value} {E : XK} {x m : Str} {p pos apos : Pos} {e o : Expr} {es : List Expr} {ta : TE} {t : TA}

/-- the callee runs -/
theorem run_fn {pins : List (Addr × Obj)} {σ : St} {H : Hp} {s : Shared} {Q : VK} {us : List Value} {vs : List V} (F : FnOk X.prog X.w X.K X.mg X.base CX k f fd ps sp) (hr : Room k X.A) (hb : Binds X.K fd ps ds) (hd : Vals dvs ds) (hx : Passes CX X E)
    (I : Inv X pins σ H s) (r : Vals vs us) (h : sp (vs ++ dvs) H Q E) : wpAny (model X.prog X.w) X.A (call (.ref f) us) (EP X pins σ Q) X.xe s := by
  have r2 : Vals (vs ++ dvs) (us ++ ds) := r.append hd
  have hl : (us ++ ds).length = ps.length := by rw [← r2.length]; exact F.len _ _ _ _ h
  refine wpAny_call (codeAny_mono (F.run X.A X.stack s H ⟨us, []⟩ (us ++ ds) (vs ++ dvs) Q E hr I.env0 (hb s us I.kIn hl) r2 h) fun r s' hq => ?_)
  cases r with
  | error e => exact hx pins σ H s e s' I hq
  | ok fl =>
    cases fl with
    | ret u => exact I.after hq
    | next => exact False.elim hq
    | brk => exact False.elim hq
    | cont => exact False.elim hq

theorem pe_call (F : FnOk X.prog X.w X.K X.mg X.base CX k f fd ps sp) (hr : Room k X.A) (hg : Gl X x) (hm : X.mg x = some (.ref f)) (hk : PySem.W.keepIn X.K (.ref f) = true) (hb : Binds X.K fd ps ds) (hd : Vals dvs ds) (hx : Passes CX X E)
    (ha : PA X (e :: es) t) (hdb : (x == ("__debug__" : Str)) = false := by decide) (he : starEach (e :: es) X.env = (false, eval e X.env) :: starEach es X.env := by rfl) (hpl : (backTo pos (starEach es X.env)).any (·.1) = false := by rfl) :
    PE X (.Call (.Name x p) (e :: es) [] pos) (tCall sp dvs E t) := by
  intro pins s σ H Q I h
  refine wpAny_Call_Name_kw (ld_glob I hg hm ?_ hdb)
  refine PySem.W.callWith_K (h₀ := X.base) I.ok.mod.kin hk (thn (ha pos pins s σ H _ I h) fun us s1 ⟨vs, H1, I1, r, q⟩ => ⟨I1.kIn, ?_⟩) he hpl
  exact run_fn F hr hb hd hx I1 r q
/-- o.m() -/
theorem pe_meth0 {pl : Sem Bool} (he : PE X o ta) (c : Cls X.K C) (hm : Meth X.K C m f) (F : FnOk X.prog X.w X.K X.mg X.base CX k f fd ps sp) (hr : Room k X.A) (hb : Binds X.K fd ps ds) (hd : Vals dvs ds) (hx : Passes CX X E)
    (ht : eval (.Call (.Attribute o m apos) [] [] pos) X.env = (do
      let ov ← eval o X.env
      standAt apos.atName
      let (f, first) ← holding [ov] (getMethod ov m pl)
      callWith pos f first (backTo pos (starEach [] X.env)) (backToKw pos (keywordEach [] X.env))) := by rfl) :
    PE X (.Call (.Attribute o m apos) [] [] pos) (tMeth C m sp dvs E ta tNil) := by
  intro pins s σ H Q I h
  refine PySem.W.methodCall_KW (pl := pl) (thn (he pins s σ H _ I h) fun u s1 ⟨x, H1, I1, rx, a, dx, fs, ex, ea, l, q⟩ => ?_) ht
  subst ex
  obtain rfl : u = Value.ref a := rx
  refine getmeth_ok I1 ea c hm l ?_
  exact PySem.W.callWith_K0 (first := [.ref a]) I1.kIn hm.kp (run_fn (us := [.ref a]) (vs := [.ref a]) F hr hb hd hx I1 (.cons rfl .nil) q)

/-- what a class must have to be made -/
structure Mk (K : PySem.W.Frag) (C f : Addr) : Prop where
  makes : PySem.W.makesIn K C = true
  init : PySem.W.findIn K (.ref C) "__init__" = some (some (.ref f))
  fn : PySem.W.isFn K (.ref f) = true
  kp : PySem.W.keepIn K (.ref C) = true

end

/-! ### keywords -/
/-- the values of the keywords, from the left -/
def PK (X : Cx) (kws : List Keyword) (t : TA) : Prop :=
  ∀ (pos : Pos) (pins : List (Addr × Obj)) (s : Shared) (σ : St) (H : Hp) (Q : List V → Hp → Prop), Inv X pins σ H s → t σ H Q → wpAny (model X.prog X.w) X.A (evalAll ((backToKw pos (keywordEach kws X.env)).map (·.2))) (AP X pins σ Q) X.xe s
section
variable {X : Cx} {CX : CXT} {k : Nat} {f C : Addr} {fd : FuncData} {ps ks : List Str} {sp : Sp} {E : XK} {x m : Str} {p pos apos kpos : Pos} {e o : Expr} {es : List Expr} {kws : List Keyword} {te ta : TE} {t tk : TA} {nm : Option Str}
theorem pk_nil : PK X [] tNil := fun _ _ _ _ H Q I h => wpAny_evalAll_nil ⟨[], H, I, .nil, h⟩
theorem pk_cons (ha : PE X e te) (hr : PK X kws t) : PK X (⟨nm, e, kpos⟩ :: kws) (tCons te t) := by
  intro pos pins s σ H Q I h
  show wpAny _ _ (evalAll ((do let v ← eval e X.env; standAt pos; pure v) :: (backToKw pos (keywordEach kws X.env)).map (·.2))) _ _ s
  refine wpAny_evalAll_cons (wpAny_bind (thn (ha pins s σ H _ I h) fun u s1 ⟨x, H1, I1, r1, q1⟩ => wpAny_bind (wpAny_standAt (wpAny_pure ?_))))
  exact thn (hr pos pins s1 σ H1 _ I1 q1) fun us s2 ⟨xs, H2, I2, r2, q2⟩ => ⟨x :: xs, H2, I2, .cons r1 r2, q2⟩

/-- how a call with keywords binds: g puts the positional values us and the keywords' values ws (names ks) in the parameters' order, defaults among them -/
structure KBinds (K : PySem.W.Frag) (fd : FuncData) (ps ks : List Str) (g : List Value → List Value → List Value) (gV : List V → List V → List V) : Prop where
  to : ∀ (s : Shared) (us ws : List Value), K.In s.heap → (g us ws).length = ps.length → BindsTo s fd ⟨us, ks.zip ws⟩ (ps.zip (g us ws))
  rel : ∀ {vs : List V} {us : List Value} {zs : List V} {ws : List Value}, Vals vs us → Vals zs ws → Vals (gV vs zs) (g us ws)
def tCallK (sp : Sp) (gV : List V → List V → List V) (E : XK) (t tk : TA) : TE := fun σ H Q => t σ H fun vs H1 => tk σ H1 fun zs H2 => sp (gV vs zs) H2 Q E
variable {g : List Value → List Value → List Value} {gV : List V → List V → List V}
theorem run_fnk {pins : List (Addr × Obj)} {σ : St} {H : Hp} {s : Shared} {Q : VK} {us ws : List Value} {vs zs : List V} (F : FnOk X.prog X.w X.K X.mg X.base CX k f fd ps sp) (hr : Room k X.A) (hb : KBinds X.K fd ps ks g gV) (hx : Passes CX X E)
    (I : Inv X pins σ H s) (r : Vals vs us) (rz : Vals zs ws) (h : sp (gV vs zs) H Q E) : wpAny (model X.prog X.w) X.A (call (.ref f) us (ks.zip ws)) (EP X pins σ Q) X.xe s := by
  have r2 := hb.rel r rz
  have hl : (g us ws).length = ps.length := by rw [← r2.length]; exact F.len _ _ _ _ h
  refine wpAny_call (codeAny_mono (F.run X.A X.stack s H ⟨us, ks.zip ws⟩ (g us ws) (gV vs zs) Q E hr I.env0 (hb.to s us ws I.kIn hl) r2 h) fun r s' hq => ?_)
  cases r with
  | error e => exact hx pins σ H s e s' I hq
  | ok fl =>
    cases fl with
    | ret u => exact I.after hq
    | next => exact False.elim hq
    | brk => exact False.elim hq
    | cont => exact False.elim hq
/-- f(e, .., k = v, ..) -/
theorem pe_callK (F : FnOk X.prog X.w X.K X.mg X.base CX k f fd ps sp) (hr : Room k X.A) (hg : Gl X x) (hm : X.mg x = some (.ref f)) (hk : PySem.W.keepIn X.K (.ref f) = true) (hb : KBinds X.K fd ps ks g gV) (hx : Passes CX X E)
    (ha : PA X (e :: es) t) (hkw : PK X kws tk) (hall : (backToKw pos (keywordEach kws X.env)).all (·.1.isSome) = true := by rfl) (hks : (backToKw pos (keywordEach kws X.env)).filterMap (·.1) = ks := by rfl)
    (hdb : (x == ("__debug__" : Str)) = false := by decide) (he : starEach (e :: es) X.env = (false, eval e X.env) :: starEach es X.env := by rfl)
    (hpl : ((backTo pos (starEach (e :: es) X.env)).any (·.1) || (backToKw pos (keywordEach kws X.env)).any (·.1.isNone)) = false := by rfl) :
    PE X (.Call (.Name x p) (e :: es) kws pos) (tCallK sp gV E t tk) := by
  intro pins s σ H Q I h
  refine wpAny_Call_Name_kw (ld_glob I hg hm ?_ hdb)
  refine PySem.W.callWith_KW (h₀ := X.base) I.ok.mod.kin hk hall (thn (ha pos pins s σ H _ I h) fun us s1 ⟨vs, H1, I1, r, q⟩ => ?_) hpl he
  refine thn (hkw pos pins s1 σ H1 _ I1 q) fun ws s2 ⟨zs, H2, I2, rz, q2⟩ => ⟨I2.kIn, ?_⟩
  rw [hks]
  exact run_fnk F hr hb hx I2 r rz q2
end

/-! ### a def's body keeps its promise -/
/-- names: the parameters first -/
structure FnScope (N P : List Str) (sc : Scope) : Prop where
  kind : sc.kind = .function
  co : sc.isCoroutine = false
  gen : sc.isGenerator = false
  nd : N.Nodup
  pre : N.take P.length = P
  par : ∀ x ∈ P, sc.names.lookup x = some .local ∨ sc.names.lookup x = some .cell
  nofree : ∀ y ∈ sc.names, y.2 ≠ .free

theorem bindL_out {kindOf : Str → Option NameKind} {x : Str} : ∀ {binds : List (Str × Value)} {m : Str → Option Value}, (∀ v, (x, v) ∉ binds) → bindL kindOf binds m x = m x
  | [], _, _ => rfl
  | (n, v) :: r, m, h => by
    unfold bindL
    rw [bindL_out fun w hw => h w (List.mem_cons_of_mem _ hw)]
    split
    · have : x ≠ n := by rintro rfl; exact h v List.mem_cons_self
      simp [this]
    · rfl
theorem bindC_out {kindOf : Str → Option NameKind} {x : Str} : ∀ {binds : List (Str × Value)} {m : Str → Option Value}, (∀ v, (x, v) ∉ binds) → bindC kindOf binds m x = m x
  | [], _, _ => rfl
  | (n, v) :: r, m, h => by
    unfold bindC
    rw [bindC_out fun w hw => h w (List.mem_cons_of_mem _ hw)]
    split
    · rfl
    · have : x ≠ n := by rintro rfl; exact h v List.mem_cons_self
      simp [this]
theorem bindL_get {kindOf : Str → Option NameKind} {x : Str} {v : Value} : ∀ {P : List Str} {vs : List Value} {i : Nat} {m : Str → Option Value}, P.Nodup → P[i]? = some x → vs[i]? = some v → kindOf x = some .local →
    bindL kindOf (P.zip vs) m x = some v
  | [], _, _, _, _, h, _, _ => by simp at h
  | _ :: _, [], _, _, _, _, h, _ => by simp at h
  | p :: P, w :: vs, 0, m, nd, h1, h2, hk => by
    simp at h1 h2; subst h1; subst h2
    show bindL kindOf ((p, w) :: P.zip vs) m p = _
    unfold bindL
    rw [bindL_out fun v hv => (List.nodup_cons.mp nd).1 (List.of_mem_zip hv).1, if_pos hk]
    simp
  | p :: P, w :: vs, i + 1, m, nd, h1, h2, hk => by
    show bindL kindOf ((p, w) :: P.zip vs) m x = _
    unfold bindL
    exact bindL_get (i := i) (List.nodup_cons.mp nd).2 (by simpa using h1) (by simpa using h2) hk
theorem bindC_get {kindOf : Str → Option NameKind} {x : Str} {v : Value} : ∀ {P : List Str} {vs : List Value} {i : Nat} {m : Str → Option Value}, P.Nodup → P[i]? = some x → vs[i]? = some v → kindOf x ≠ some .local →
    bindC kindOf (P.zip vs) m x = some v
  | [], _, _, _, _, h, _, _ => by simp at h
  | _ :: _, [], _, _, _, _, h, _ => by simp at h
  | p :: P, w :: vs, 0, m, nd, h1, h2, hk => by
    simp at h1 h2; subst h1; subst h2
    show bindC kindOf ((p, w) :: P.zip vs) m p = _
    unfold bindC
    rw [bindC_out fun v hv => (List.nodup_cons.mp nd).1 (List.of_mem_zip hv).1, if_neg hk]
    simp
  | p :: P, w :: vs, i + 1, m, nd, h1, h2, hk => by
    show bindC kindOf ((p, w) :: P.zip vs) m x = _
    unfold bindC
    exact bindC_get (i := i) (List.nodup_cons.mp nd).2 (by simpa using h1) (by simpa using h2) hk

/-- the names' values at the entry -/
def start (N : List Str) (vs : List V) : St := vs.map some ++ List.replicate (N.length - vs.length) none

/-- the context of a def's body, at its entry; an exception leaves the frame, then lies as CX says -/
def cxOf (CX : CXT) (P : Program) (w : World) (K : PySem.W.Frag) (mg : Str → Option Value) (base : Heap) (N : List Str) (qual : Str) (scope : Scope) (f : Addr) (cd : Value) (A : Around) (outer : List Env) (s : Shared) (H : Hp) (E : XK) : Cx where
  prog := P
  w := w
  K := K
  mg := mg
  base := base
  A := A.deeper (envOfC qual scope s.heap.objs.size f cd)
  N := N
  s_0 := s
  H_0 := H
  env := envOfC qual scope s.heap.objs.size f cd
  outer := outer
  stack := envOfC qual scope s.heap.objs.size f cd :: outer
  ex := []
  calm := true
  fn := fun _ => true
  pn := []
  xe := fun e s' => wpAny (model P w) (A.deeper (envOfC qual scope s.heap.objs.size f cd)) (leaving (envOfC qual scope s.heap.objs.size f cd) e) (fun _ s'' => CX outer H s E e s'') (fun e' s'' => CX outer H s E e' s'') s'

theorem cell_has {sc : Scope} {n : Nat} {x : Str} (h : sc.names.lookup x = some .cell) : ∃ c, (cellsFrom n sc.names []).lookup x = some c := by
  have q := PySem.W.cellsFrom_some sc.names n [] (.inl h)
  exact Option.isSome_iff_exists.mp q

theorem inv_start {CX : CXT} {P : Program} {w : World} {K : PySem.W.Frag} {mg : Str → Option Value} {base : Heap} {N ps : List Str} {qual : Str} {scope : Scope} {f : Addr} {cd : Value} {A : Around} {outer : List Env} {s s1 : Shared} {H : Hp} {E : XK} {us : List Value} {vs : List V}
    (S : FnScope N ps scope) (hd : A.handled = none) (e0 : Env0 P w K mg base A outer s H) (hl : vs.length = ps.length) (r : Vals vs us)
    (x : InCallC s s.heap.objs.size (bindL (envOfC qual scope s.heap.objs.size f cd).kindOf (ps.zip us) fun _ => none) (cellsFrom (s.heap.objs.size + 1) scope.names []) (bindC (envOfC qual scope s.heap.objs.size f cd).kindOf (ps.zip us) fun _ => none) s1) :
    Inv (cxOf CX P w K mg base N qual scope f cd A outer s H E) [] (start N vs) H s1 := by
  have hpl : ps.length ≤ N.length := by have := congrArg List.length S.pre; rw [List.length_take] at this; omega
  obtain ⟨h1, tk, rfl, hk⟩ := x.done
  have noA : ∀ b : Addr, b ∉ (cxOf CX P w K mg base N qual scope f cd A outer s H E).ex := fun b z => absurd (show b ∈ ([] : List Addr) from z) (by simp)
  refine ⟨⟨e0.mod, S.kind, rfl, rfl, Nat.le_refl _, fun y z c h1 h2 => ?_, fun y hy => ?_, fun y c _ h => ?_, fun _ => hd, Around.frames_deeper e0.frames, .inr ⟨rfl, rfl⟩, fun b z => absurd z (noA b), e0.bs, e0.bsz, fun b _ _ => noA b, fun b z => absurd z (noA b), e0.funs, e0.frf⟩,
    rfl, e0.bare, Un.kept hk, ⟨_, x.toInCall.ns, fun i y v h1 h2 h3 => ?_⟩, fun y c h => ⟨_, x.cell y c h⟩, e0.hok.fresh (Nat.le_refl _), fun y c h => ?_, fun p hp => absurd (show p ∈ ([] : List (Addr × Obj)) from hp) (by simp), e0.hok.kept hk, ?_⟩
  · exact name_of_addr x.apart (PySem.mem_of_lookup h1) (PySem.mem_of_lookup h2)
  · have hy : scope.names.lookup y = some .cell ∨ scope.names.lookup y = some .free := hy
    rcases hy with hy | hy
    · exact cell_has hy
    · exact absurd rfl (S.nofree _ (PySem.mem_of_lookup hy))
  · exact Nat.le_of_lt (x.above y c (PySem.mem_of_lookup h))
  · have hi : i < vs.length := by
      unfold start at h2
      by_cases hi : i < vs.length
      · exact hi
      · rw [List.getElem?_append_right (by simpa using hi)] at h2
        rw [List.getElem?_replicate] at h2
        split at h2 <;> cases h2
    have ha : vs[i]? = some v := by
      unfold start at h2
      rw [List.getElem?_append_left (by simpa using hi), List.getElem?_map] at h2
      cases e : vs[i]? with
      | none => rw [e] at h2; cases h2
      | some a => rw [e] at h2; cases h2; rfl
    obtain ⟨u, hu, rv⟩ := r.get ha
    have hp : ps[i]? = some y := by
      rw [← S.pre, List.getElem?_take_of_lt (by omega)]; exact h1
    have ndP : ps.Nodup := by rw [← S.pre]; exact S.nd.sublist (List.take_sublist _ _)
    refine ⟨u, rv, ?_⟩
    rcases S.par y (List.mem_of_getElem? hp) with k | k
    · exact .inl ⟨k, bindL_get ndP hp hu k⟩
    · obtain ⟨c, e⟩ := cell_has (n := s.heap.objs.size + 1) k
      refine .inr ⟨.inl k, c, e, ?_⟩
      have q := x.cell y c e
      rw [bindC_get ndP hp hu (by show scope.names.lookup y ≠ _; rw [k]; decide)] at q
      exact q
  · exact e0.hok.fresh (Nat.le_of_lt (x.above y c (PySem.mem_of_lookup h)))
  · unfold start
    show _ = N.length
    rw [List.length_append, List.length_map, List.length_replicate]
    omega

/-- THE RULE: a def (or a method) of the text, by its body. The body's reading t is chosen for each entry; it is run at the parameters' values -/
theorem fn_of {CX : CXT} {P : Program} {w : World} {K : PySem.W.Frag} {mg : Str → Option Value} {base : Heap} {k : Nat} {f : Addr} {name qual : Str} {params : Arguments} {body : List Stmt} {scope : Scope} {dV kV doc pm cdv ct oc : Value} {an od : Option Addr}
    {osl : Array (Option Value)} {N ps : List Str} {sp : Sp} (lk : K.lookup f = some ⟨oc, od, .func (PySem.W.fnOf name qual params body scope dV kV doc pm an cdv ct), osl⟩) (hcd : PySem.W.codeIn K cdv qual = true) (S : FnScope N ps scope)
    (len : ∀ vs H Q E, sp vs H Q E → vs.length = ps.length)
    (hbody : ∀ (A : Around) (outer : List Env) (s : Shared) (H : Hp) (vs : List V) (Q : VK) (E : XK), Room k (A.deeper (envOfC qual scope s.heap.objs.size f cdv)) → sp vs H Q E →
      ∃ t, PSs (cxOf CX P w K mg base N qual scope f cdv A outer s H E) body t ∧ t { nx := fun _ H' => Q .non H', rt := Q } (start N vs) H) :
    FnOk P w K mg base CX (k + 1) f (PySem.W.fnOf name qual params body scope dV kV doc pm an cdv ct) ps sp := by
  refine ⟨len, fun A outer s H args us vs Q E hr e0 hb r hsp => ?_⟩
  have hl := len _ _ _ _ hsp
  have KX : K.In s.heap := e0.mod.kin.keeps fun b o e => (e0.bs b o e).1
  have lim : s.heap.NoLimit := e0.mod.nolimit.keeps fun b o e => (e0.bs b o e).1
  have hkind : ∀ y ∈ ps.zip us, scope.names.lookup y.1 = some .local ∨ (scope.names.lookup y.1 = some .cell ∧ ((cellsFrom (s.heap.objs.size + 1) scope.names []).lookup y.1).isSome = true) := fun ⟨n, v⟩ hy => by
    rcases S.par n (List.of_mem_zip hy).1 with q | q
    · exact .inl q
    · exact .inr ⟨q, PySem.W.cellsFrom_some _ _ _ (.inl q)⟩
  refine codeAny_call_function hr.depth (KX _ _ lk) rfl S.co S.gen rfl (PySem.W.codeRec_of KX hcd) (hb _ _ _ _ ?_)
  refine wpAny_newFunctionEnv_cells S.kind hkind fun env he s1 x => ?_
  subst he
  refine ⟨lim.keeps x.toInCall.keep, codeAny_func ?_⟩
  obtain ⟨t, ht, hq⟩ := hbody A outer s H vs Q E (hr.deeper _) hsp
  have I : Inv (cxOf CX P w K mg base N qual scope f cdv A outer s H E) [] (start N vs) H s1 := inv_start S hr.hd e0 hl r x
  refine wpAny_mono (ht [] s1 (start N vs) H _ I hq) (fun fl s' hs => ?_) fun e s' hs => hs
  have fin : ∀ {σ' : St} {H' : Hp} {v : V} {u : Value}, Inv (cxOf CX P w K mg base N qual scope f cdv A outer s H E) [] σ' H' s' → RelV v u → Q v H' → CE outer P w H s Q u s' :=
    fun {σ' H' v u} J rv q => ⟨v, H', J.os, J.bare, J.base, J.hok, rv, q⟩
  cases fl with
  | ret u =>
    obtain ⟨v, σ', H', J, rv, q⟩ := hs
    exact fin J rv q
  | next =>
    obtain ⟨σ', H', J, q⟩ := hs
    exact fin (v := V.non) (u := Value.none) J rfl q
  | brk =>
    obtain ⟨_, _, _, q⟩ := hs
    exact False.elim q
  | cont =>
    obtain ⟨_, _, _, q⟩ := hs
    exact False.elim q
end L2

namespace L2
open PySem PySem.Spec PyProof.Rows
section
variable {X : Cx} {x : Str} {p pos : Pos} {e : Expr} {es : List Expr} {t : TA} {id T : String} {r : List V → Hp → VK → Prop}

def tCB (r : List V → Hp → VK → Prop) (t : TA) : TE := fun σ H Q => t σ H fun vs H1 => r vs H1 Q
/-- f(e, ..), f a built-in function -/
theorem pe_callB (hc : CallR X (.builtin id) r) (hg : Gl X x) (hm : X.mg x = none) (hv : bootBuiltins x = some (.builtin id)) (ha : PA X (e :: es) t) (hn : x ≠ "__name__" := by decide) (hdb : (x == ("__debug__" : Str)) = false := by decide)
    (he : starEach (e :: es) X.env = (false, eval e X.env) :: starEach es X.env := by rfl) (hpl : (backTo pos (starEach es X.env)).any (·.1) = false := by rfl) : PE X (.Call (.Name x p) (e :: es) [] pos) (tCB r t) := by
  intro pins s σ H Q I h
  refine wpAny_Call_Name_kw (ld_blt I hg hm hv ?_ hn hdb)
  exact PyProof.Rows.callWith_builtin1 (thn (ha pos pins s σ H _ I h) fun us s1 ⟨vs, H1, I1, r1, q1⟩ => hc pins s1 σ H1 vs us Q I1 r1 q1) he hpl
/-- T(e, ..), T a built-in type -/
theorem pe_callTy (hc : CallR X (.type T) r) (hg : Gl X x) (hm : X.mg x = none) (hv : bootBuiltins x = some (.type T)) (ha : PA X (e :: es) t) (hn : x ≠ "__name__" := by decide) (hdb : (x == ("__debug__" : Str)) = false := by decide)
    (he : starEach (e :: es) X.env = (false, eval e X.env) :: starEach es X.env := by rfl) (hpl : (backTo pos (starEach es X.env)).any (·.1) = false := by rfl) : PE X (.Call (.Name x p) (e :: es) [] pos) (tCB r t) := by
  intro pins s σ H Q I h
  refine wpAny_Call_Name_kw (ld_blt I hg hm hv ?_ hn hdb)
  exact PyProof.Rows.callWith_type1 (thn (ha pos pins s σ H _ I h) fun us s1 ⟨vs, H1, I1, r1, q1⟩ => hc pins s1 σ H1 vs us Q I1 r1 q1) he hpl
end
end L2

namespace HT
open PySem PyProof.Rows

/-- t < u of tuples of ints -/
def lexLt : List Int → List Int → Bool
  | [], [] => false
  | [], _ :: _ => true
  | _ :: _, [] => false
  | x :: xs, y :: ys => if x = y then lexLt xs ys else decide (x < y)
theorem lexLt_cons (x y : Int) (xs ys : List Int) : lexLt (x :: xs) (y :: ys) = if x = y then lexLt xs ys else decide (x < y) := rfl
theorem lexLt_nil_nil : lexLt [] [] = false := rfl
theorem lexLt_nil_cons (y : Int) (ys : List Int) : lexLt [] (y :: ys) = true := rfl
theorem lexLt_cons_nil (x : Int) (xs : List Int) : lexLt (x :: xs) [] = false := rfl

section
open PySem.SeqAt
open PySem.AutoSeq1 (wpAny_loadPart')
open PySem.MeetsSeq PySem.MeetsSeq2 PySem.MeetsSeq3

end

section
variable {prog : Program} {w : World} {A : Around} {E : Value → Shared → Prop} {s : Shared}

/-! ### t[a:b], not the whole -/
/-- a slice's bound as a place among n (d where it is left out) -/
def sIx (n d : Nat) : Option Int → Nat
  | none => d
  | some v => if v < 0 then (v + (n : Int)).toNat else min v.toNat n
theorem sIx_none (n d : Nat) : sIx n d none = d := rfl
theorem sIx_nat (n d k : Nat) : sIx n d (some (k : Int)) = min k n := by
  show (if (k : Int) < 0 then ((k : Int) + (n : Int)).toNat else min (k : Int).toNat n) = min k n
  rw [if_neg (by omega), Int.toNat_natCast]
theorem clip_eq (v : Int) (n d : Nat) : (if v < 0 then max (v + (n : Int)) 0 else min v (n : Int)) = ((sIx n d (some v) : Nat) : Int) := by
  show (if v < 0 then max (v + (n : Int)) 0 else min v (n : Int)) = (((if v < 0 then (v + (n : Int)).toNat else min v.toNat n) : Nat) : Int)
  by_cases hv : v < 0
  · simp only [if_pos hv]; omega
  · simp only [if_neg hv]; omega
end
end HT

namespace L2
open PySem PySem.Spec PyProof.Rows

/-! ### the parts of a slice -/
abbrev TO := St → Hp → (Option Int → Hp → Prop) → Prop
/-- a slice's part (left out, or an int) -/
def PO (X : Cx) (e : Option Expr) (t : TO) : Prop :=
  ∀ (pins : List (Addr × Obj)) (s : Shared) (σ : St) (H : Hp) (Q : Option Int → Hp → Prop), Inv X pins σ H s → t σ H Q →
    wpAny (model X.prog X.w) X.A (evalPart e X.env) (fun u s' => ∃ o H', Inv X pins σ H' s' ∧ IsPart u o ∧ Q o H') X.xe s
def tNoPart : TO := fun _ H Q => Q none H
def tPart (t : TE) : TO := fun σ H Q => t σ H fun x H1 => ∃ i, x = .int i ∧ Q (some i) H1

section
variable {X : Cx} {e : Expr} {te : TE} {lo hi : Option Expr} {tl th : TO} {pos p2 : Pos}

theorem po_some (h : PE X e te) : PO X (some e) (tPart te) := by
  intro pins s σ H Q I hw
  rw [evalPart_some]
  refine thn (h pins s σ H _ I hw) fun u s1 ⟨x, H1, I1, r1, q1⟩ => ?_
  obtain ⟨i, rfl, q⟩ := q1
  obtain ⟨t, rfl⟩ := r1
  exact ⟨some i, H1, I1, .int i t, q⟩

/-- what a slice of a value is, by values: the slice object stands at sl -/
def SlR (X : Cx) (r : V → Option Int → Option Int → Hp → VK → Prop) : Prop :=
  ∀ (pins : List (Addr × Obj)) (s : Shared) (σ : St) (H : Hp) (x : V) (v vl vu : Value) (lo hi : Option Int) (sl : Addr) (Q : VK), Inv X pins σ H s → RelV x v → s.heap.IsSliceOf sl vl vu .none → IsPart vl lo → IsPart vu hi → r x lo hi H Q →
    ∃ T id, typeLookup (.type T) "__getitem__" = pure (some (.builtin id)) ∧ s.TypeIs v T ∧ wpAny (model X.prog X.w) X.A (getItem v (.ref sl)) (EP X pins σ Q) X.xe s
def tSl (r : V → Option Int → Option Int → Hp → VK → Prop) (te : TE) (tl th : TO) : TE := fun σ H Q => te σ H fun x H1 => tl σ H1 fun l H2 => th σ H2 fun u H3 => r x l u H3 Q
/-- a[lo:hi], any a -/
theorem pe_slice {r : V → Option Int → Option Int → Hp → VK → Prop} (hr : SlR X r) (he : PE X e te) (hl : PO X lo tl) (hu : PO X hi th) : PE X (.Subscript e (.Slice lo hi none p2) pos) (tSl r te tl th) := by
  intro pins s σ H Q I h
  refine Subscript_ (thn (he pins s σ H _ I h) fun v s1 ⟨x, H1, I1, r1, q1⟩ => ?_)
  refine wpAny_Slice (thn (hl pins s1 σ H1 _ I1 q1) fun vl s2 ⟨l, H2, I2, pl, q2⟩ => thn (hu pins s2 σ H2 _ I2 q2) fun vu s3 ⟨u, H3, I3, pu, q3⟩ => ?_)
  rw [evalPart_none]
  refine wpAny_pure ?_
  have I4 : Inv X pins σ H3 { s3 with heap := s3.heap.push { cls := .type "slice", data := .fields #[vl, vu, .none] } } := I3.kept (t' := s3.toks) fun b ob q => Heap.get?_push_of_some _ q
  obtain ⟨T, id, hT, ht, hg⟩ := hr pins { s3 with heap := s3.heap.push { cls := .type "slice", data := .fields #[vl, vu, .none] } } σ H3 x v vl vu l u s3.heap.objs.size Q I4 r1 (Heap.IsSliceOf.new ..) pl pu q3
  show wpAny (model X.prog X.w) X.A (subscriptTail e (.Slice lo hi none p2) v (.ref s3.heap.objs.size)) (EP X pins σ Q) X.xe { s3 with heap := s3.heap.push { cls := .type "slice", data := .fields #[vl, vu, .none] } }
  exact tail_any (ops := [.ref s3.heap.objs.size, v]) ht hT hg (by with_unfolding_all rfl)

/-- the items of xs[lo:hi] -/
def cutV (xs : List V) (lo hi : Option Int) : List V := (xs.drop (HT.sIx xs.length 0 lo)).take (HT.sIx xs.length xs.length hi - HT.sIx xs.length 0 lo)
theorem cutV_length (xs : List V) (lo hi : Option Int) : (cutV xs lo hi).length ≤ xs.length := by
  unfold cutV
  rw [List.length_take, List.length_drop]
  omega
/-- t[lo:hi], not the whole of it (the whole would be t itself) -/
def rSlT (K : PySem.W.Frag) : V → Option Int → Option Int → Hp → VK → Prop := fun x lo hi H Q => ∃ a xs, x = .ref a ∧ SqT K H a xs ∧
  ¬ (HT.sIx xs.length 0 lo = 0 ∧ HT.sIx xs.length xs.length hi = xs.length) ∧ ∀ p, H p = none → Q (.ref p) (upd H p (.tup (cutV xs lo hi)))
/-! ### t < u, t + u -/
def rLtT (K : PySem.W.Frag) : R2 := fun x y H Q => ∃ a b ns ms, x = .ref a ∧ y = .ref b ∧ SqT K H a (ns.map V.int) ∧ SqT K H b (ms.map V.int) ∧ Q (.bl (HT.lexLt ns ms)) H
/-- t + u, t not empty: u empty gives t itself -/
def rCatT (K : PySem.W.Frag) : R2 := fun x y H Q => ∃ a b xs ys, x = .ref a ∧ y = .ref b ∧ SqT K H a xs ∧ SqT K H b ys ∧ xs ≠ [] ∧ xs.length + ys.length ≤ sizeLine ∧
  (ys = [] → Q (.ref a) H) ∧ (ys ≠ [] → ∀ p, H p = none → Q (.ref p) (upd H p (.tup (xs ++ ys))))
end
end L2

namespace L2
open PySem PySem.Spec PyProof.Rows

/-! ### places -/
/-- the place that an index of any sign means -/
def ixN (n : Nat) (i : Int) : Option Nat := if 0 ≤ i then (if i < n then some i.toNat else none) else if -(n : Int) ≤ i then some (i + n).toNat else none
def atI {α : Type} (xs : List α) (i : Int) : Option α := (ixN xs.length i).bind fun j => xs[j]?
theorem ixN_seq {n : Nat} {i : Int} {j : Nat} (h : ixN n i = some j) : seqIndex? i n = some j ∧ j < n ∧ -(n : Int) ≤ i ∧ i < n := by
  unfold ixN at h
  by_cases h0 : 0 ≤ i
  · rw [if_pos h0] at h
    by_cases h1 : i < n
    · rw [if_pos h1] at h
      have e : i.toNat = j := Option.some.inj h
      exact ⟨by rw [seqIndex_of h0 h1, e], by omega, by omega, h1⟩
    · rw [if_neg h1] at h; cases h
  · rw [if_neg h0] at h
    by_cases h1 : -(n : Int) ≤ i
    · rw [if_pos h1] at h
      have e : (i + n).toNat = j := Option.some.inj h
      exact ⟨by rw [seqIndex_neg (by omega) h1, e], by omega, h1, by omega⟩
    · rw [if_neg h1] at h; cases h
theorem atI_get {α : Type} {xs : List α} {i : Int} {v : α} (h : atI xs i = some v) : ∃ j, seqIndex? i xs.length = some j ∧ xs[j]? = some v ∧ j < xs.length ∧ -(xs.length : Int) ≤ i ∧ i < xs.length := by
  unfold atI at h
  cases e : ixN xs.length i with
  | none => rw [e] at h; cases h
  | some j =>
    rw [e] at h
    obtain ⟨h1, h2, h3, h4⟩ := ixN_seq e
    exact ⟨j, h1, h, h2, h3, h4⟩
theorem atI_nat {α : Type} {xs : List α} {j : Nat} {v : α} (h : xs[j]? = some v) : atI xs (j : Int) = some v := by
  have hj : j < xs.length := (List.getElem?_eq_some_iff.mp h).1
  have e : ixN xs.length (j : Int) = some j := by
    unfold ixN
    rw [if_pos (by omega), if_pos (by omega)]; simp
  unfold atI; rw [e]; exact h
/-! ### what may be subscripted -/
/-- what stands as an index of a plain subscript -/
def PlainIx (b : Expr) : Prop := ∀ o i, subscripted b false o i = operate [o, i] (getItem o i)
/-- a subscript by values -/
def IxR (X : Cx) (r : R2) : Prop :=
  ∀ (value slice : Expr) (pins : List (Addr × Obj)) (s : Shared) (σ : St) (H : Hp) (x y : V) (v u : Value) (Q : VK), Inv X pins σ H s → RelV x v → RelV y u → r x y H Q →
    subscripted slice false v u = operate [v, u] (getItem v u) → wpAny (model X.prog X.w) X.A (subscriptTail value slice v u) (EP X pins σ Q) X.xe s
/-- a call of a builtin's method by values: the receiver, the arguments -/
def MtR (X : Cx) (id : String) (r : V → List V → Hp → VK → Prop) : Prop :=
  ∀ (pins : List (Addr × Obj)) (s : Shared) (σ : St) (H : Hp) (x : V) (xs : List V) (v : Value) (us : List Value) (Q : VK), Inv X pins σ H s → RelV x v → Vals xs us → r x xs H Q →
    wpAny (model X.prog X.w) X.A (call (.builtin id) (v :: us)) (EP X pins σ Q) X.xe s
section
variable {X : Cx} {a b : Expr} {ta tb : TE} {pos : Pos}
/-- a[b] -/
theorem pe_ix {r : R2} (hr : IxR X r) (ha : PE X a ta) (hb : PE X b tb) (hs : PlainIx b) : PE X (.Subscript a b pos) (tOp r ta tb) := by
  intro pins s σ H Q I h
  exact Subscript_ (binT ha hb I h fun v u s2 x y H2 I2 rx ry q => hr a b pins s2 σ H2 x y v u Q I2 rx ry q (hs _ _))

def rIxL (K : PySem.W.Frag) : R2 := fun x y H Q => ∃ p xs i v, x = .ref p ∧ y = .int i ∧ SqL K H p xs ∧ atI xs i = some v ∧ Q v H
def rIxT (K : PySem.W.Frag) : R2 := fun x y H Q => ∃ p xs i v, x = .ref p ∧ y = .int i ∧ SqT K H p xs ∧ atI xs i = some v ∧ Q v H
def rIxS : R2 := fun x y H Q => ∃ z i c, x = .str z ∧ y = .int i ∧ z.length ≤ sizeLine ∧ atI z.cps.toList i = some c ∧ Q (.str ⟨#[c]⟩) H
theorem ix_list : IxR X (rIxL X.K) := by
  intro value slice pins s σ H x y v u Q I rx ry h hs
  obtain ⟨p, xs, i, z, rfl, rfl, hq, he, q⟩ := h
  cases rx
  obtain ⟨t, rfl⟩ := ry
  obtain ⟨its, r, pl, hz⟩ := I.list hq
  obtain ⟨j, h1, h2, h3, h4, h5⟩ := atI_get he
  obtain ⟨w, ew, rw'⟩ := r.get h2
  have hl := r.length
  have hn := line63
  have fin : EP X pins σ Q w s := ⟨z, H, I, rw', q⟩
  by_cases h0 : 0 ≤ i
  · have hj : i.toNat = j := by
      rw [seqIndex_of h0 h5] at h1
      exact Option.some.inj h1
    exact item_listR pl.isList h0 (by omega) (by rw [hj]; simpa using ew) fin hs
  · have hj : (i + (its.toArray.size : Int)).toNat = j := by
      rw [seqIndex_neg (by omega) h4] at h1
      rw [List.size_toArray, ← hl]
      exact Option.some.inj h1
    exact subscriptTail_builtinR (x := w) pl.isList.typeIs slot_list_getitem.lookup
      (wpAny_getItem_list_neg (Q := fun r s' => r = w ∧ EP X pins σ Q r s') pl.isList (by omega) (by rw [List.size_toArray] <;> omega) (by omega) (by rw [hj]; simpa using ew) ⟨rfl, fin⟩) hs
theorem ix_tup : IxR X (rIxT X.K) := by
  intro value slice pins s σ H x y v u Q I rx ry h hs
  obtain ⟨p, xs, i, z, rfl, rfl, hq, he, q⟩ := h
  cases rx
  obtain ⟨t, rfl⟩ := ry
  obtain ⟨its, r, pl, hz⟩ := I.tuple hq
  obtain ⟨j, h1, h2, h3, h4, h5⟩ := atI_get he
  obtain ⟨w, ew, rw'⟩ := r.get h2
  have hl := r.length
  have hn := line63
  have fin : EP X pins σ Q w s := ⟨z, H, I, rw', q⟩
  exact subscriptTail_builtinR (x := w) pl.typeIs slot_tuple_getitem.lookup
    (getItem_tuple (j := j) (Q := fun r s' => r = w ∧ EP X pins σ Q r s') pl (by omega) (by omega) (by rw [List.size_toArray, ← hl]; exact h1) (by simpa using ew) ⟨rfl, fin⟩) hs
/-- list, tuple or str -/
def rIx (K : PySem.W.Frag) : R2 := fun x y H Q => rIxL K x y H Q ∨ rIxT K x y H Q ∨ rIxS x y H Q
/-! ### xs[i] = v, any sign -/
/-- the list's object behind a store -/
theorem mapSeq_set (its : List Value) (n j : Nat) (u : Value) : Obj.mapSeq (·.setIfInBounds j u) { cls := .type "list", data := .seq its.toArray n } = { cls := .type "list", data := .seq (its.set j u).toArray n } := by
  simp [Obj.mapSeq]
theorem Inv.lst {pins : List (Addr × Obj)} {σ : St} {H : Hp} {s : Shared} {p : Addr} {xs : List V} (I : Inv X pins σ H s) (h : H p = some (.lst xs)) :
    ∃ (its : List Value) (n : Nat), Vals xs its ∧ s.heap.get? p = some { cls := .type "list", data := .seq its.toArray n } ∧ xs.length ≤ sizeLine := by
  obtain ⟨z, its, n, r, e⟩ := I.hok p _ h
  exact ⟨its, n, r, e, z⟩
/-- the list at p is written by an update of its object -/
theorem Inv.lstUpd {pins : List (Addr × Obj)} {σ : St} {H : Hp} {s : Shared} {p : Addr} {xs ys : List V} {its its' : List Value} {n n' : Nat} {f : Obj → Obj} (I : Inv X pins σ H s) (h : H p = some (.lst xs))
    (ho : s.heap.get? p = some { cls := .type "list", data := .seq its.toArray n }) (hf : f { cls := .type "list", data := .seq its.toArray n } = { cls := .type "list", data := .seq its'.toArray n' }) (r : Vals ys its') (hz : ys.length ≤ sizeLine) (t : Nat) :
    Inv X pins σ (upd H p (.lst ys)) { s with heap := s.heap.update p f, toks := t } := by
  have e : (s.heap.update p f).get? p = some { cls := .type "list", data := .seq its'.toArray n' } := by
    rw [Heap.get?_update_self f ho (by rw [hf] <;> rfl), hf]
  refine I.write (x := p) (e := p) (by rw [h]; trivial) (.inl rfl) (fun b u hb q => (Heap.get?_update_other _ _ (Ne.symm hb)).trans q) ⟨_, e⟩ ?_
  exact ⟨hz, its', n', r, e⟩
def rSetL : V → V → V → Hp → (Hp → Prop) → Prop := fun o i v H Q => ∃ p xs k j, o = .ref p ∧ i = .int k ∧ H p = some (.lst xs) ∧ ixN xs.length k = some j ∧ Q (upd H p (.lst (xs.set j v)))
theorem set_list : PSet X rSetL := by
  intro pins s σ H o i v ov iv u Q I ro ri rv h
  obtain ⟨p, xs, k, j, rfl, rfl, hp, hj, q⟩ := h
  cases ro
  obtain ⟨t, rfl⟩ := ri
  obtain ⟨its, n, r, ho, hz⟩ := I.lst hp
  obtain ⟨h1, h2, h3, h4⟩ := ixN_seq hj
  have hl := r.length
  have hn := line63
  have I' : Inv X pins σ (upd H p (.lst (xs.set j v))) { s with heap := s.heap.update p (Obj.mapSeq (·.setIfInBounds j u)) } :=
    I.lstUpd hp ho (mapSeq_set its n j u) (r.set rv j) (by rw [List.length_set]; exact hz) s.toks
  by_cases h0 : 0 ≤ k
  · have hk : k.toNat = j := by
      rw [seqIndex_of h0 h4] at h1
      exact Option.some.inj h1
    exact PySem.W.ki_setAt ho h0 (by omega) (by rw [List.size_toArray, ← hl]; exact h4) (by rw [hk]; exact ⟨_, I', q⟩)
  · have hk : (k + (its.toArray.size : Int)).toNat = j := by
      rw [seqIndex_neg (by omega) h3] at h1
      rw [List.size_toArray, ← hl]
      exact Option.some.inj h1
    exact PySem.W.ki_setBack ho (by omega) (by rw [List.size_toArray, ← hl]; exact h3) (by omega) (by rw [hk]; exact ⟨_, I', q⟩)

/-! ### slices -/
theorem slice_bounds (lo hi : Option Int) (n : Nat) : (sliceBounds lo hi none n).1 = ((HT.sIx n 0 lo : Nat) : Int) ∧ (sliceBounds lo hi none n).2.1 = ((HT.sIx n n hi : Nat) : Int) ∧ (sliceBounds lo hi none n).2.2 = 1 := by
  refine ⟨?_, ?_, rfl⟩
  · cases lo with
    | none => simp [sliceBounds, HT.sIx]
    | some i =>
      simp only [sliceBounds, HT.sIx, Option.getD_none, show (1 : Int) > 0 by decide, if_true]
      by_cases h : i < 0
      · simp only [h, if_true] <;> omega
      · simp only [h, if_false] <;> omega
  · cases hi with
    | none => simp [sliceBounds, HT.sIx]
    | some i =>
      simp only [sliceBounds, HT.sIx, Option.getD_none, show (1 : Int) > 0 by decide, if_true]
      by_cases h : i < 0
      · simp only [h, if_true] <;> omega
      · simp only [h, if_false] <;> omega
theorem slicePick_cut (its : List Value) (lo hi : Option Int) : slicePick its.toArray lo hi none = ((its.drop (HT.sIx its.length 0 lo)).take (HT.sIx its.length its.length hi - HT.sIx its.length 0 lo)).toArray := by
  obtain ⟨h1, h2, h3⟩ := slice_bounds lo hi its.toArray.size
  unfold slicePick
  rw [h1, h2, h3]
  simp only [sliceRange_one, pick_run, List.size_toArray] <;> rfl
/-- xs[lo:hi] of a list: a new list -/
def rSlL (K : PySem.W.Frag) : V → Option Int → Option Int → Hp → VK → Prop := fun x lo hi H Q => ∃ a xs, x = .ref a ∧ SqL K H a xs ∧ ∀ p, H p = none → Q (.ref p) (upd H p (.lst (cutV xs lo hi)))
theorem sl_list : SlR X (rSlL X.K) := by
  intro pins s σ H x v vl vu lo hi sl Q I rx hs pl pu h
  obtain ⟨a, xs, rfl, hx, q⟩ := h
  cases rx
  obtain ⟨its, r, ht, hz⟩ := I.list hx
  have hlen := r.length
  refine ⟨"list", _, slot_list_getitem.lookup, ht.isList.typeIs, ?_⟩
  refine wpAny_getItem_list_slice ht.isList hs pl pu .none (by simp) ?_ (by rw [List.size_toArray] <;> omega)
  rw [slicePick_cut, ← hlen]
  refine ⟨.ref s.heap.objs.size, _, I.laid (t' := s.toks) (o := .lst (cutV xs lo hi)) (fun b ob q => Heap.get?_push_of_some _ q) (Nat.le_refl _) ?_, rfl, q _ (I.hok.fresh (Nat.le_refl _))⟩
  exact ⟨Nat.le_trans (cutV_length xs lo hi) hz, _, 0, (r.drop (HT.sIx xs.length 0 lo)).take (HT.sIx xs.length xs.length hi - HT.sIx xs.length 0 lo), Heap.get?_push_size _ rfl⟩

/-! ### in, not in: flat items -/
def flatV : V → Bool
  | .non => true
  | .bl _ => true
  | .int _ => true
  | .str _ => true
  | _ => false
/-- == of flat values -/
def eqV : V → V → Bool
  | .non, .non => true
  | .bl a, .bl b => a == b
  | .bl a, .int b => (if a then 1 else 0) == b
  | .int a, .bl b => a == (if b then 1 else 0)
  | .int a, .int b => a == b
  | .str a, .str b => a == b
  | _, _ => false
theorem eqAt_V {A : Around} {s : Shared} {y x : V} {u v : Value} (ry : RelV y u) (rx : RelV x v) (fy : flatV y = true) (fx : flatV x = true) : SeqAt.EqAt A s u v (eqV y x) := by
  cases y with
  | non =>
    cases ry
    cases x with
    | non => cases rx; exact SeqAt.EqAt.same _
    | bl b => cases rx; exact SeqAt.EqAt.none_bool b
    | int b => obtain ⟨t, rfl⟩ := rx; exact SeqAt.EqAt.none_int b t
    | str b => obtain ⟨t, rfl⟩ := rx; exact SeqAt.EqAt.none_str b t
    | _ => exact absurd (show false = true from fx) Bool.false_ne_true
  | bl a =>
    cases ry
    cases x with
    | non => cases rx; exact SeqAt.EqAt.bool_none a
    | bl b => cases rx; exact SeqAt.EqAt.bool_bool a b
    | int b => obtain ⟨t, rfl⟩ := rx; exact SeqAt.EqAt.bool_int a b t
    | str b => obtain ⟨t, rfl⟩ := rx; exact SeqAt.EqAt.bool_str a b t
    | _ => exact absurd (show false = true from fx) Bool.false_ne_true
  | int a =>
    obtain ⟨t', rfl⟩ := ry
    cases x with
    | non => cases rx; exact SeqAt.EqAt.int_none a t'
    | bl b => cases rx; exact SeqAt.EqAt.int_bool a t' b
    | int b => obtain ⟨t, rfl⟩ := rx; exact SeqAt.EqAt.int_int a t' b t
    | str b => obtain ⟨t, rfl⟩ := rx; exact SeqAt.EqAt.int_str a t' b t
    | _ => exact absurd (show false = true from fx) Bool.false_ne_true
  | str a =>
    obtain ⟨t', rfl⟩ := ry
    cases x with
    | non => cases rx; exact SeqAt.EqAt.str_none a t'
    | bl b => cases rx; exact SeqAt.EqAt.str_bool a t' b
    | int b => obtain ⟨t, rfl⟩ := rx; exact SeqAt.EqAt.str_int a t' b t
    | str b => obtain ⟨t, rfl⟩ := rx; exact SeqAt.EqAt.str_str a t' b t
    | _ => exact absurd (show false = true from fx) Bool.false_ne_true
  | _ => exact absurd (show false = true from fy) Bool.false_ne_true
/-- the items' answers, read off the values (a value's own answer does not lean on its token) -/
def eqU (x : V) (u : Value) : Bool := match u with
  | .none => eqV .non x
  | .bool b => eqV (.bl b) x
  | .int i _ => eqV (.int i) x
  | .str z _ => eqV (.str z) x
  | _ => false
theorem eqU_of {x y : V} {u : Value} (r : RelV y u) (f : flatV y = true) : eqU x u = eqV y x := by
  cases y with
  | non => cases r; rfl
  | bl b => cases r; rfl
  | int i => obtain ⟨t, rfl⟩ := r; rfl
  | str z => obtain ⟨t, rfl⟩ := r; rfl
  | _ => exact absurd (show false = true from f) Bool.false_ne_true
theorem mem_eqAt {A : Around} {s : Shared} {x : V} {v : Value} (rx : RelV x v) (fx : flatV x = true) : ∀ {xs : List V} {us : List Value}, Vals xs us → xs.all flatV = true → ∀ u ∈ us, SeqAt.EqAt A s u v (eqU x u)
  | _, _, .nil, _ => fun u hu => by cases hu
  | y :: xs, u :: us, .cons r t, f => fun u' hu => by
    rw [List.all_cons, Bool.and_eq_true] at f
    rcases List.mem_cons.mp hu with rfl | hu
    · rw [eqU_of r f.1]; exact eqAt_V r rx f.1 fx
    · exact mem_eqAt rx fx t f.2 u' hu
def inV (x : V) (xs : List V) : Bool := xs.any fun y => eqV y x
/-- x in a list or tuple of flat items -/
def rIn (K : PySem.W.Frag) (neg : Bool) : R2 := fun x y H Q => ∃ p xs, y = .ref p ∧ (SqL K H p xs ∨ SqT K H p xs) ∧ flatV x = true ∧ xs.all flatV = true ∧ Q (.bl (if neg then !inV x xs else inV x xs)) H
/-! ### len, list(x), tuple(x) of any list or tuple that is read -/
theorem call_len_seq : CallR X (.builtin "len") (fun xs H Q => ∃ p ys, xs = [.ref p] ∧ (SqL X.K H p ys ∨ SqT X.K H p ys) ∧ Q (.int ys.length) H) := by
  intro pins s σ H xs us Q I r h
  obtain ⟨p, ys, rfl, hq, q⟩ := h
  obtain ⟨u, rfl, rx⟩ := vals1 r
  cases rx
  have hn := line63
  rcases hq with hq | hq
  · obtain ⟨its, r', pl, hz⟩ := I.list hq
    have hlen := r'.length
    exact Calls.call_len_list pl.isList (by simp only [List.size_toArray] <;> omega) ⟨.int ys.length, H, I.tok _, ⟨s.toks + 1, by rw [List.size_toArray, hlen]⟩, q⟩
  · obtain ⟨its, r', pl, hz⟩ := I.tuple hq
    have hlen := r'.length
    exact len_tuple pl (by simp only [List.size_toArray] <;> omega) ⟨.int ys.length, H, I.tok _, ⟨s.toks + 1, by rw [List.size_toArray, hlen]⟩, q⟩
/-! ### the call of a builtin's method: o.m(..) -/
/-- the value is of that builtin type -/
def tyV (K : PySem.W.Frag) (T : String) (x : V) (H : Hp) : Prop := match x with
  | .str _ => T = "str"
  | .int _ => T = "int"
  | .ref p => (T = "list" ∧ ∃ xs, SqL K H p xs) ∨ (T = "tuple" ∧ ∃ o, K.lookup p = some o ∧ o.cls = .type "tuple" ∧ o.dict = none) ∨
      (T = "dict" ∧ ((∃ kvs, H p = some (.dK kvs)) ∨ ∃ kvs, H p = some (.dT kvs))) ∨ (T = "set" ∧ ∃ S n, H p = some (.set S n))
  | _ => False
theorem tyV_is {pins : List (Addr × Obj)} {σ : St} {H : Hp} {s : Shared} {T : String} {x : V} {v : Value} (I : Inv X pins σ H s) (r : RelV x v) (ty : tyV X.K T x H) :
    s.TypeIs v T ∧ ∀ a, v = .ref a → ∃ ob, s.heap.get? a = some ob ∧ ob.dict = none := by
  cases x with
  | str z =>
    obtain ⟨t, rfl⟩ := r
    cases (show T = "str" from ty)
    exact ⟨typeIs_str s z t, fun _ e => nomatch e⟩
  | int i =>
    obtain ⟨t, rfl⟩ := r
    cases (show T = "int" from ty)
    exact ⟨typeIs_int s i t, fun _ e => nomatch e⟩
  | ref p =>
    cases r
    rcases ty with ⟨rfl, xs, hq⟩ | ⟨rfl, o, hk, hc, hd⟩ | ⟨rfl, hk⟩ | ⟨rfl, S, n, hk⟩
    · obtain ⟨its, _, pl, _⟩ := I.list hq
      refine ⟨pl.isList.typeIs, fun a e => ?_⟩
      cases e
      obtain ⟨o, n, e, c, hd, _⟩ := pl
      exact ⟨o, e, hd⟩
    · refine ⟨⟨o, I.kIn p o hk, hc⟩, fun a e => ?_⟩
      cases e
      exact ⟨o, I.kIn _ o hk, hd⟩
    · have z : ∃ o, s.heap.get? p = some o ∧ o.ExactDict := by
        rcases hk with ⟨kvs, hk⟩ | ⟨kvs, hk⟩
        · obtain ⟨_, _, _, _, o, _, _, e, ex, _⟩ := I.hok p _ hk
          exact ⟨o, e, ex⟩
        · obtain ⟨_, _, _, _, o, _, _, e, ex, _⟩ := I.hok p _ hk
          exact ⟨o, e, ex⟩
      obtain ⟨o, e, ex⟩ := z
      refine ⟨⟨o, e, ex.1⟩, fun a e2 => ?_⟩
      cases e2
      exact ⟨o, e, ex.2.1⟩
    · obtain ⟨o, _, _, _, e, ex, _⟩ := I.hok p _ hk
      refine ⟨⟨o, e, ex.1⟩, fun a e2 => ?_⟩
      cases e2
      exact ⟨o, e, ex.2.1⟩
  | _ => exact False.elim ty
def tBM0 (K : PySem.W.Frag) (T : String) (r : V → List V → Hp → VK → Prop) (to : TE) : TE := fun σ H Q => to σ H fun x H1 => tyV K T x H1 ∧ r x [] H1 Q
def tBM (K : PySem.W.Frag) (T : String) (r : V → List V → Hp → VK → Prop) (to : TE) (t : TA) : TE := fun σ H Q => to σ H fun x H1 => tyV K T x H1 ∧ t σ H1 fun xs H2 => r x xs H2 Q
variable {o e : Expr} {es : List Expr} {to : TE} {t : TA} {name : Str} {apos cpos : Pos} {T id : String} {r : V → List V → Hp → VK → Prop}
theorem pe_bm0 (pa : PlainAttrs T) (slot : Slot T name id) (hty : typeOf (.builtin id) = pure (.type "method_descriptor")) (hm : MtR X id r) (ho : PE X o to)
    (hbase : attributeBase o name X.env (eval o X.env) = eval o X.env := by rfl) (hline : (apos.endLine == cpos.line) = true := by rfl) : PE X (.Call (.Attribute o name apos) [] [] cpos) (tBM0 X.K T r to) := by
  intro pins s σ H Q I h
  refine wpAny_Call_method0_late hbase hline (thn (ho pins s σ H _ I h) fun v s1 ⟨x, H1, I1, r1, ty, q1⟩ => ?_)
  obtain ⟨h1, h2⟩ := tyV_is I1 r1 ty
  exact ⟨T, id, pa, slot, hty, h1, h2, Calls.callWith_builtin rfl (PySem.evalArgs_none (hm pins s1 σ H1 x [] v [] Q I1 r1 .nil q1))⟩
theorem pe_bm (pa : PlainAttrs T) (slot : Slot T name id) (hty : typeOf (.builtin id) = pure (.type "method_descriptor")) (hm : MtR X id r) (ho : PE X o to) (ha : PA X (e :: es) t)
    (hbase : attributeBase o name X.env (eval o X.env) = eval o X.env := by rfl)
    (hfew : ((backTo cpos (starEach (e :: es) X.env)).all (fun x => !x.1) && (backToKw cpos (keywordEach [] X.env)).all (fun x => x.1.isSome)
      && decide ((e :: es).length + ([] : List Keyword).length + (if ([] : List Keyword).isEmpty then 0 else 1) < 30)) = true := by rfl)
    (hline : (apos.endLine == cpos.line) = true := by rfl) (hs : starEach (e :: es) X.env = (false, eval e X.env) :: starEach es X.env := by rfl) (hplain : (backTo cpos (starEach es X.env)).any (·.1) = false := by rfl) :
    PE X (.Call (.Attribute o name apos) (e :: es) [] cpos) (tBM X.K T r to t) := by
  intro pins s σ H Q I h
  refine wpAny_Call_method_late hbase hfew hline rfl (thn (ho pins s σ H _ I h) fun v s1 ⟨x, H1, I1, r1, ty, q1⟩ => ?_)
  obtain ⟨h1, h2⟩ := tyV_is I1 r1 ty
  refine ⟨T, id, pa, slot, hty, h1, h2, ?_⟩
  have hA := ha cpos pins s1 σ H1 _ I1 q1
  rw [hs] at hA ⊢
  refine Calls.callWith_builtin (by show (false || (backTo cpos (starEach es X.env)).any (·.1)) = false; rw [hplain] <;> rfl) (Calls.evalArgs_plain ?_)
  exact thn hA fun us s2 ⟨vs, H2, I2, r2, q2⟩ => hm pins s2 σ H2 x vs v us Q I2 r1 r2 q2
/- xs.append(e), list.index on a module's tuple .. are MtR facts of 06m -/
end
end L2

namespace L2
open PySem PySem.Spec PyProof.Rows

def MtM (X : Cx) (id : String) (r : V → List V → Hp → VK → Prop) : Prop :=
  ∀ (pins : List (Addr × Obj)) (s : Shared) (σ : St) (H : Hp) (x : V) (xs : List V) (v : Value) (us : List Value) (Q : VK), Inv X pins σ H s → RelV x v → Vals xs us → r x xs H Q →
    wpAny (model X.prog X.w) X.A (call (.builtin id) (v :: us)) (EP X pins σ Q) X.xe s

/-! ### lists of values -/
section
variable {X : Cx} {pins : List (Addr × Obj)} {σ : St} {H : Hp} {s : Shared} {l b : Addr} {xs ys zs : List V}

/-! ### the two steps: a tracked list is rewritten, a new list is laid -/
theorem Inv.lnew {its : List Value} {t' : Nat} (I : Inv X pins σ H s) (hv : Vals ys its) (hz : ys.length ≤ sizeLine) :
    Inv X pins σ (upd H s.heap.objs.size (.lst ys)) { s with heap := s.heap.push { cls := .type "list", data := .seq its.toArray }, toks := t' } :=
  I.laid (fun _ _ q => Heap.get?_push_of_some _ q) (Nat.le_refl _) ⟨hz, its, 0, hv, Heap.get?_push_size _ rfl⟩
theorem Inv.fresh (I : Inv X pins σ H s) : H s.heap.objs.size = none := I.hok.fresh (Nat.le_refl _)
theorem Inv.lstM (I : Inv X pins σ H s) (hH : H l = some (.lst xs)) : xs.length ≤ sizeLine ∧ ∃ (its : List Value) (n : Nat), Vals xs its ∧ xs.length = its.length ∧ s.heap.get? l = some { cls := .type "list", data := .seq its.toArray n } := by
  obtain ⟨z, its, n, r, e⟩ := I.hok l _ hH
  exact ⟨z, its, n, r, r.length, e⟩

end

section
variable {X : Cx}

/-! ### methods -/
def rAppend : V → List V → Hp → VK → Prop := fun x vs H Q => ∃ l xs y, x = .ref l ∧ vs = [y] ∧ H l = some (.lst xs) ∧ xs.length < sizeLine ∧ Q .non (upd H l (.lst (xs ++ [y])))
def rExtend : V → List V → Hp → VK → Prop := fun x vs H Q => ∃ l b xs zs, x = .ref l ∧ vs = [.ref b] ∧ H l = some (.lst xs) ∧ H b = some (.lst zs) ∧ xs.length + zs.length ≤ sizeLine ∧ Q .non (upd H l (.lst (xs ++ zs)))
def rPop : V → List V → Hp → VK → Prop := fun x vs H Q => ∃ l xs y, x = .ref l ∧ vs = [] ∧ H l = some (.lst xs) ∧ xs[xs.length - 1]? = some y ∧ Q y (upd H l (.lst xs.dropLast))
def rPopAt : V → List V → Hp → VK → Prop := fun x vs H Q => ∃ l xs i k y, x = .ref l ∧ vs = [.int i] ∧ H l = some (.lst xs) ∧ -(2 ^ 63) ≤ i ∧ i < 2 ^ 63 ∧ seqIndex? i xs.length = some k ∧ xs[k]? = some y ∧ Q y (upd H l (.lst (xs.eraseIdx k)))
def rReverse : V → List V → Hp → VK → Prop := fun x vs H Q => ∃ l xs, x = .ref l ∧ vs = [] ∧ H l = some (.lst xs) ∧ Q .non (upd H l (.lst xs.reverse))
def rClear : V → List V → Hp → VK → Prop := fun x vs H Q => ∃ l xs, x = .ref l ∧ vs = [] ∧ H l = some (.lst xs) ∧ Q .non (upd H l (.lst []))
/-! ### list + list, list += list, list * int -/
def rCat : R2 := fun x y H Q => ∃ l b xs zs, x = .ref l ∧ y = .ref b ∧ H l = some (.lst xs) ∧ H b = some (.lst zs) ∧ xs.length + zs.length ≤ sizeLine ∧ ∀ p, H p = none → Q (.ref p) (upd H p (.lst (xs ++ zs)))
theorem op_cat : OpR X (binaryOp .Add) rCat := by
  intro pins s σ H x y v u Q I rx ry h
  obtain ⟨l, b, xs, zs, rfl, rfl, hH, hB, hz, q⟩ := h
  cases rx
  cases ry
  obtain ⟨z, its, n, r, hl, e⟩ := I.lstM hH
  obtain ⟨z2, its2, n2, r2, hl2, e2⟩ := I.lstM hB
  refine PySem.P.add_list e e2 ?_ (by rw [List.size_toArray, List.size_toArray]; omega)
  have ea : its.toArray ++ its2.toArray = (its ++ its2).toArray := by simp
  rw [ea]
  exact ⟨.ref _, _, I.lnew (t' := s.toks) (r.append r2) (by rw [List.length_append]; omega), rfl, q _ I.fresh⟩
/-- a list times an int (a negative one is nothing) -/
def rRep : R2 := fun x y H Q => ∃ l k xs, x = .ref l ∧ y = .int k ∧ H l = some (.lst xs) ∧ -(2 ^ 63) ≤ k ∧ k < 2 ^ 63 ∧ xs.length * k.toNat ≤ sizeLine ∧
  ∀ p, H p = none → Q (.ref p) (upd H p (.lst (List.replicate k.toNat xs).flatten))
/-! ### del xs[i] -/
end

/-! ### xs[a:b] = ys -/
section
variable {prog : Program} {w : World} {A : Around} {E : Value → Shared → Prop} {s : Shared}
end

section
variable {X : Cx}
end
end L2

namespace L2
open PySem PySem.Spec PyProof.Rows

theorem Vals.ints : ∀ {ns : List Int} {us : List Value}, Vals (ns.map V.int) us → IntsAre us ns
  | [], us, h => by
    rw [List.map_nil] at h
    cases h
    exact IntsAre.nil
  | n :: ns, us, h => by
    rw [List.map_cons] at h
    cases h with
    | cons r t =>
      obtain ⟨k, rfl⟩ := r
      exact IntsAre.cons n k (Vals.ints t)
theorem Vals.ref1 {a : Addr} {us : List Value} (r : Vals [V.ref a] us) : us = [Value.ref a] := by
  cases r with
  | cons r t =>
    cases t
    cases r
    rfl
/-! ### the library's walks over a list of ints, kept objects alone -/
section
variable {prog : Program} {w : World} {A : Around} {E : Value → Shared → Prop} {s : Shared} {l : Addr} {its : List Value} {ns : List Int} {Q : Value → Shared → Prop}
end

/-! ### the calls, by values (CallR of 03t; MtR of 06l) -/
section
variable {X : Cx}
/-- sum(xs) of a list of ints -/
def rSum (K : PySem.W.Frag) : List V → Hp → VK → Prop := fun vs H Q => ∃ (a : Addr) (ns : List Int), vs = [V.ref a] ∧ SqL K H a (ns.map V.int) ∧ Q (.int ns.sum) H
/-- max(xs), min(xs) of a list of ints -/
def rMax (K : PySem.W.Frag) : List V → Hp → VK → Prop := fun vs H Q => ∃ (a : Addr) (ns : List Int), vs = [V.ref a] ∧ SqL K H a (ns.map V.int) ∧ 0 < ns.length ∧ ∀ m, m ∈ ns → (∀ y, y ∈ ns → y ≤ m) → Q (.int m) H
def rMin (K : PySem.W.Frag) : List V → Hp → VK → Prop := fun vs H Q => ∃ (a : Addr) (ns : List Int), vs = [V.ref a] ∧ SqL K H a (ns.map V.int) ∧ 0 < ns.length ∧ ∀ m, m ∈ ns → (∀ y, y ∈ ns → m ≤ y) → Q (.int m) H
/-! sorted, sort (fewer than 64 items: the library's own bound) -/
def rSorted (K : PySem.W.Frag) : List V → Hp → VK → Prop := fun vs H Q => ∃ (a : Addr) (ns : List Int), vs = [V.ref a] ∧ SqL K H a (ns.map V.int) ∧ ns.length < 64 ∧
  ∀ (ns' : List Int) (p : Addr), ns'.Perm ns → ns'.Pairwise (· ≤ ·) → H p = none → Q (.ref p) (upd H p (.lst (ns'.map V.int)))
def rSortedS (K : PySem.W.Frag) : List V → Hp → VK → Prop := fun vs H Q => ∃ (a : Addr) (xs : List Str), vs = [V.ref a] ∧ SqL K H a (xs.map V.str) ∧ xs.length < 64 ∧
  ∀ (ys : List Str) (p : Addr), ys.Perm xs → sortedS ys = true → H p = none → Q (.ref p) (upd H p (.lst (ys.map V.str)))
/-- xs.sort(), ints -/
def rSort : V → List V → Hp → VK → Prop := fun x xs H Q => ∃ (a : Addr) (ns : List Int), x = V.ref a ∧ xs = [] ∧ H a = some (.lst (ns.map V.int)) ∧ ns.length < 64 ∧
  ∀ ns' : List Int, ns'.Perm ns → ns'.Pairwise (· ≤ ·) → Q .non (upd H a (.lst (ns'.map V.int)))
end

/-! ### list.index, flat items -/
section
variable {X : Cx}
def rIndex (K : PySem.W.Frag) : V → List V → Hp → VK → Prop := fun x xs H Q => ∃ (a : Addr) (ys : List V) (y : V) (j : Nat) (z : V), x = V.ref a ∧ xs = [y] ∧ SqL K H a ys ∧ flatV y = true ∧ ys.all flatV = true ∧ ys[j]? = some z ∧ eqV z y = true ∧
  (∀ (m : Nat) (z' : V), m < j → ys[m]? = some z' → eqV z' y = false) ∧ Q (.int (j : Nat)) H
end

/-! ### type(x) of an own instance; is, is not of a module's class -/
section
variable {X : Cx}
end

/-! ### any(xs), all(xs) of a list of bools -/
section
variable {X : Cx}
def rAny (K : PySem.W.Frag) : List V → Hp → VK → Prop := fun vs H Q => ∃ (a : Addr) (bs : List Bool), vs = [V.ref a] ∧ SqL K H a (bs.map V.bl) ∧ Q (.bl (bs.any id)) H
def rAll (K : PySem.W.Frag) : List V → Hp → VK → Prop := fun vs H Q => ∃ (a : Addr) (bs : List Bool), vs = [V.ref a] ∧ SqL K H a (bs.map V.bl) ∧ Q (.bl (bs.all id)) H
end

/-! ### == and != of data at any depth: none, bools, ints, texts, lists, tuples -/
mutual
inductive Dp (K : PySem.W.Frag) (H : Hp) : V → PyData → Prop
  | non : Dp K H .non .none
  | bl (b : Bool) : Dp K H (.bl b) (.bool b)
  | int (i : Int) : Dp K H (.int i) (.int i)
  | str (x : Str) : Dp K H (.str x) (.str x)
  | lst {a : Addr} {xs : List V} {ds : List PyData} : SqL K H a xs → DpAll K H xs ds → Dp K H (.ref a) (.list ds)
  | tup {a : Addr} {xs : List V} {ds : List PyData} : SqT K H a xs → DpAll K H xs ds → Dp K H (.ref a) (.tuple ds)
inductive DpAll (K : PySem.W.Frag) (H : Hp) : List V → List PyData → Prop
  | nil : DpAll K H [] []
  | cons {v : V} {vs : List V} {d : PyData} {ds : List PyData} : Dp K H v d → DpAll K H vs ds → DpAll K H (v :: vs) (d :: ds)
end
section
variable {X : Cx} {pins : List (Addr × Obj)} {σ : St} {H : Hp} {s : Shared}
mutual
theorem Dp.reads (I : Inv X pins σ H s) : ∀ (d : PyData) (v : V) (u : Value), Dp X.K H v d → RelV v u → ∃ as, Reads s.heap u d as
  | .none, _, _, h, r => by
    cases h
    cases r
    exact ⟨_, Reads.none⟩
  | .bool b, _, _, h, r => by
    cases h
    cases r
    exact ⟨_, Reads.bool b⟩
  | .int i, _, _, h, r => by
    cases h
    obtain ⟨t, rfl⟩ := r
    exact ⟨_, Reads.int i t⟩
  | .str x, _, _, h, r => by
    cases h
    obtain ⟨t, rfl⟩ := r
    exact ⟨_, Reads.str x t⟩
  | .list ds, _, _, h, r => by
    cases h with
    | lst hs ha =>
      cases r
      obtain ⟨its, rv, ⟨o, n, ho, hc, _, hd⟩, _⟩ := I.list hs
      obtain ⟨as, hr⟩ := Dp.readsAll I ds _ its ha rv
      exact ⟨_, Reads.list ho hc hd hr⟩
  | .tuple ds, _, _, h, r => by
    cases h with
    | tup hs ha =>
      cases r
      obtain ⟨its, rv, ⟨o, ho, hc, n, hd⟩, _⟩ := I.tuple hs
      obtain ⟨as, hr⟩ := Dp.readsAll I ds _ its ha rv
      exact ⟨_, Reads.tuple ho hc hd hr⟩
  | .dict _, _, _, h, _ => by cases h
theorem Dp.readsAll (I : Inv X pins σ H s) : ∀ (ds : List PyData) (vs : List V) (us : List Value), DpAll X.K H vs ds → Vals vs us → ∃ as, ReadsAll s.heap us ds as
  | [], _, _, h, r => by
    cases h
    cases r
    exact ⟨_, ReadsAll.nil⟩
  | d :: ds, _, _, h, r => by
    cases h with
    | cons h1 h2 =>
      cases r with
      | cons r1 r2 =>
        obtain ⟨as, q1⟩ := Dp.reads I d _ _ h1 r1
        obtain ⟨bs, q2⟩ := Dp.readsAll I ds _ _ h2 r2
        exact ⟨_, ReadsAll.cons q1 q2⟩
end
end
section
variable {X : Cx}
def rEqD (K : PySem.W.Frag) : R2 := fun x y H Q => ∃ d e, Dp K H x d ∧ Dp K H y e ∧ SeqAt.shaped d = true ∧ SeqAt.shaped e = true ∧ Q (.bl (PyData.eqv d e)) H
def rNeD (K : PySem.W.Frag) : R2 := fun x y H Q => ∃ d e, Dp K H x d ∧ Dp K H y e ∧ SeqAt.shaped d = true ∧ SeqAt.shaped e = true ∧ Q (.bl (!PyData.eqv d e)) H
theorem op_eqD (hu : X.A.units + 64 < cLine) : OpR X (compareOp .Eq) (rEqD X.K) := by
  intro pins s σ H x y v u Q I rx ry h
  obtain ⟨d, e, hd, he, sd, se, q⟩ := h
  obtain ⟨as, r1⟩ := Dp.reads I d x v hd rx
  obtain ⟨bs, r2⟩ := Dp.reads I e y u he ry
  exact SeqAt.compareEq_shaped r1 r2 sd se hu ⟨.bl _, H, I, rfl, q⟩
theorem op_neD (hu : X.A.units + 64 < cLine) : OpR X (compareOp .NotEq) (rNeD X.K) := by
  intro pins s σ H x y v u Q I rx ry h
  obtain ⟨d, e, hd, he, sd, se, q⟩ := h
  obtain ⟨as, r1⟩ := Dp.reads I d x v hd rx
  obtain ⟨bs, r2⟩ := Dp.reads I e y u he ry
  exact SeqAt.compareNe_shaped r1 r2 sd se hu ⟨.bl _, H, I, rfl, q⟩
end
end L2

namespace L2
open PySem PySem.Spec PyProof.Rows
abbrev CellAt (h : Heap) (c : Addr) (v : Option Value) : Prop := h.IsCell c v
def relS (scope sc : Scope) : Scope :=
  { scope with names := scope.names.map fun (n, k) => if (k == .free && sc.kind == .function && sc.names.lookup n == some .cell) then (n, .cell) else (n, k) }

def cloFrom (cells : List (Str × Addr)) : List (Str × NameKind) → List (Str × Addr) → List (Str × Addr)
  | [], acc => acc
  | (n, k) :: r, acc => if k == .free then cloFrom cells r ((n, (cells.lookup n).getD 0) :: acc) else cloFrom cells r acc

theorem closure_loop (env : Env) (f : Str × NameKind → List (Str × Addr) → Sem (ForInStep (List (Str × Addr))))
    (hf : ∀ n k c, f (n, k) c = if k == .free then (do let a ← cellOf env n; pure (.yield ((n, a) :: c))) else pure (.yield c)) :
    ∀ (names : List (Str × NameKind)) (acc : List (Str × Addr)), (∀ y ∈ names, y.2 = .free → ∃ c, env.cells.lookup y.1 = some c) → forIn names acc f = pure (cloFrom env.cells names acc)
  | [], acc, _ => by rw [List.forIn_nil]; rfl
  | (n, k) :: r, acc, h => by
    rw [List.forIn_cons, hf]
    have ih := fun acc => closure_loop env f hf r acc fun y hy => h y (List.mem_cons_of_mem _ hy)
    unfold cloFrom
    by_cases hk : (k == NameKind.free) = true
    · rw [if_pos hk, if_pos hk]
      obtain ⟨c, hc⟩ := h (n, k) List.mem_cons_self (by simpa using hk)
      have e : cellOf env n = pure c := by unfold cellOf; rw [hc]
      rw [e]
      have e2 : (env.cells.lookup n).getD 0 = c := by rw [hc]; rfl
      rw [e2]
      exact ih _
    · rw [if_neg hk, if_neg hk]
      exact ih _
theorem closure_ok {scope : Scope} {env : Env} (h : ∀ y ∈ scope.names, y.2 = .free → ∃ c, env.cells.lookup y.1 = some c) : closureFor scope env = pure (cloFrom env.cells scope.names []) := by
  simp only [closureFor]
  rw [closure_loop env _ (fun n k c => rfl) scope.names [] h]
  rfl

theorem mem_lookup {α : Type} : ∀ {l : List (Str × α)} {n : Str} {c : α}, (n, c) ∈ l → ∃ c', l.lookup n = some c'
  | (k, v) :: r, n, c, h => by
    rw [List.lookup_cons]
    cases hb : n == k with
    | true => exact ⟨_, rfl⟩
    | false =>
      rcases List.mem_cons.mp h with e | h
      · cases e; simp at hb
      · exact mem_lookup h

theorem cloFrom_mem {cells : List (Str × Addr)} : ∀ {names : List (Str × NameKind)} {acc : List (Str × Addr)} {n : Str} {c : Addr}, (n, c) ∈ cloFrom cells names acc → (n, c) ∈ acc ∨ ((n, .free) ∈ names ∧ c = (cells.lookup n).getD 0)
  | [], _, _, _, h => .inl h
  | (m, k) :: r, acc, n, c, h => by
    unfold cloFrom at h
    split at h
    · rename_i hk
      have hk : k = .free := by simpa using hk
      rcases cloFrom_mem h with h | ⟨h1, h2⟩
      · rcases List.mem_cons.mp h with e | h
        · cases e; exact .inr ⟨hk ▸ List.mem_cons_self, rfl⟩
        · exact .inl h
      · exact .inr ⟨List.mem_cons_of_mem _ h1, h2⟩
    · rcases cloFrom_mem h with h | ⟨h1, h2⟩
      · exact .inl h
      · exact .inr ⟨List.mem_cons_of_mem _ h1, h2⟩
theorem cloFrom_acc {cells : List (Str × Addr)} : ∀ {names : List (Str × NameKind)} {acc : List (Str × Addr)} {p : Str × Addr}, p ∈ acc → p ∈ cloFrom cells names acc
  | [], _, _, h => h
  | (m, k) :: r, acc, p, h => by
    unfold cloFrom
    split
    · exact cloFrom_acc (List.mem_cons_of_mem _ h)
    · exact cloFrom_acc h
theorem cloFrom_has {cells : List (Str × Addr)} : ∀ {names : List (Str × NameKind)} {acc : List (Str × Addr)} {n : Str}, (n, .free) ∈ names → (n, (cells.lookup n).getD 0) ∈ cloFrom cells names acc
  | (m, k) :: r, acc, n, h => by
    unfold cloFrom
    rcases List.mem_cons.mp h with e | h
    · cases e
      exact cloFrom_acc List.mem_cons_self
    · split
      · exact cloFrom_has h
      · exact cloFrom_has h

theorem cells_mem : ∀ {names : List (Str × NameKind)} {h : Heap} {acc : List (Str × Addr)} {x : Str} {c : Addr}, (x, c) ∈ cellsFrom h.objs.size names acc →
    (x, c) ∈ acc ∨ ((x, .cell) ∈ names ∧ h.objs.size ≤ c ∧ CellAt (pushCells h names) c none)
  | [], _, _, _, _, h => .inl h
  | (n, k) :: r, h, acc, x, c, hm => by
    unfold cellsFrom at hm
    unfold pushCells
    split at hm
    · rename_i hk
      rw [if_pos hk]
      have hk : k = .cell := by simpa using hk
      rw [← Heap.size_push h { cls := .type "cell", data := .cell none }] at hm
      rcases cells_mem hm with hm | ⟨h1, h2, h3⟩
      · rcases List.mem_cons.mp hm with e | hm
        · cases e
          exact .inr ⟨hk ▸ List.mem_cons_self, Nat.le_refl _, _, pushCells_keeps r _ _ _ (Heap.get?_push_size _ rfl), rfl⟩
        · exact .inl hm
      · rw [Heap.size_push] at h2
        exact .inr ⟨List.mem_cons_of_mem _ h1, Nat.le_of_succ_le h2, h3⟩
    · rename_i hk
      rw [if_neg hk]
      rcases cells_mem hm with hm | ⟨h1, h2, h3⟩
      · exact .inl hm
      · exact .inr ⟨List.mem_cons_of_mem _ h1, h2, h3⟩
theorem cells_acc : ∀ {names : List (Str × NameKind)} {n : Nat} {acc : List (Str × Addr)} {p : Str × Addr}, p ∈ acc → p ∈ cellsFrom n names acc
  | [], _, _, _, h => h
  | (m, k) :: r, n, acc, p, h => by
    unfold cellsFrom
    split
    · exact cells_acc (List.mem_cons_of_mem _ h)
    · exact cells_acc h
theorem cells_has : ∀ {names : List (Str × NameKind)} {n : Nat} {acc : List (Str × Addr)} {x : Str}, (x, .cell) ∈ names → ∃ c, (x, c) ∈ cellsFrom n names acc
  | (m, k) :: r, n, acc, x, h => by
    unfold cellsFrom
    rcases List.mem_cons.mp h with e | h
    · cases e
      exact ⟨n, cells_acc List.mem_cons_self⟩
    · split
      · exact cells_has h
      · exact cells_has h
theorem cells_inj : ∀ {names : List (Str × NameKind)} {h : Heap} {acc : List (Str × Addr)} {x y : Str} {c : Addr}, (∀ p ∈ acc, p.2 < h.objs.size) → (∀ x y c, (x, c) ∈ acc → (y, c) ∈ acc → x = y) →
    (x, c) ∈ cellsFrom h.objs.size names acc → (y, c) ∈ cellsFrom h.objs.size names acc → x = y
  | [], _, _, _, _, _, _, hi, h1, h2 => hi _ _ _ h1 h2
  | (n, k) :: r, h, acc, x, y, c, hl, hi, h1, h2 => by
    unfold cellsFrom at h1 h2
    split at h1
    · rename_i hk
      rw [if_pos hk] at h2
      rw [← Heap.size_push h { cls := .type "cell", data := .cell none }] at h1 h2
      refine cells_inj (h := h.push _) (fun p hp => ?_) (fun x y c a b => ?_) h1 h2
      · rw [Heap.size_push]
        rcases List.mem_cons.mp hp with rfl | hp
        · exact Nat.lt_succ_self _
        · exact Nat.lt_succ_of_lt (hl p hp)
      · rcases List.mem_cons.mp a with e | a <;> rcases List.mem_cons.mp b with e' | b
        · cases e; cases e'; rfl
        · cases e; exact absurd (hl _ b) (Nat.lt_irrefl _)
        · cases e'; exact absurd (hl _ a) (Nat.lt_irrefl _)
        · exact hi _ _ _ a b
    · rename_i hk
      rw [if_neg hk] at h2
      exact cells_inj hl hi h1 h2

theorem newEnv_comp {M : Model} {A : Around} {E : Value → Shared → Prop} {s : Shared} {scope : Scope} {globals : Addr} {closure : List (Str × Addr)} {qual : Str} {func : Option Addr} {code : Value} {around : Env} {builtins : Addr} {Q : Env → Shared → Prop}
    (h : Q (newEnv scope s.heap.objs.size globals (cellsFrom (s.heap.objs.size + 1) scope.names closure) qual func code (some around) builtins)
      { s with heap := pushCells (s.heap.push { cls := .type "dict", data := .dict #[] }) scope.names }) :
    wpAny M A (newFunctionEnv scope globals closure [] qual func code (some around) builtins) Q E s := by
  simp only [newFunctionEnv, Option.isSome_some, if_true]
  refine wpAny_bind (wpAny_alloc ?_)
  refine wpAny_bind (wpAny_layCells _ (fun n k c => rfl) scope.names closure _ _ ?_)
  rw [show ({ s with heap := s.heap.push { cls := .type "dict", data := .dict #[] } } : Shared).heap.objs.size = s.heap.objs.size + 1 from Heap.size_push ..]
  rw [List.forIn_nil]
  exact wpAny_bind (wpAny_pure (wpAny_pure h))

/-- every name of the written scope, in the scope that runs -/
theorem lookup_relS {sc : Scope} : ∀ {names : List (Str × NameKind)} {x : Str} {k : NameKind},
    (names.map fun (n, k) => if (k == NameKind.free && sc.kind == .function && sc.names.lookup n == some .cell) then (n, NameKind.cell) else (n, k)).lookup x = some k →
    ∃ k', names.lookup x = some k' ∧ (k = k' ∨ (k' = .free ∧ k = .cell))
  | [], _, _, h => by simp at h
  | (n, k₀) :: r, x, k, h => by
    have ih := @lookup_relS sc r x k
    have h' : List.lookup x ((if (k₀ == NameKind.free && sc.kind == .function && sc.names.lookup n == some .cell) = true then (n, NameKind.cell) else (n, k₀)) :: (r.map _)) = some k := h
    cases hx : x == n with
    | true =>
      simp only [List.lookup_cons, hx]
      by_cases hc : (k₀ == NameKind.free && sc.kind == .function && sc.names.lookup n == some .cell) = true
      · rw [if_pos hc] at h'
        simp only [List.lookup_cons, hx] at h'
        cases h'
        simp only [Bool.and_eq_true, beq_iff_eq] at hc
        exact ⟨k₀, rfl, .inr ⟨hc.1.1, rfl⟩⟩
      · rw [if_neg hc] at h'
        simp only [List.lookup_cons, hx] at h'
        cases h'
        exact ⟨_, rfl, .inl rfl⟩
    | false =>
      simp only [List.lookup_cons, hx]
      by_cases hc : (k₀ == NameKind.free && sc.kind == .function && sc.names.lookup n == some .cell) = true
      · rw [if_pos hc] at h'
        simp only [List.lookup_cons, hx] at h'
        exact ih h'
      · rw [if_neg hc] at h'
        simp only [List.lookup_cons, hx] at h'
        exact ih h'
/-- the names of a comprehension's block: its own (with their places in N), or captured -/
structure BlkOk (N : List Str) (sc scope : Scope) (own : List (Str × Nat)) : Prop where
  kind : scope.kind = .function
  uniq : ∀ y ∈ scope.names, scope.names.lookup y.1 = some y.2
  ix : ∀ p ∈ own, N[p.2]? = some p.1
  free : ∀ y ∈ scope.names, y.2 = .free → sc.names.lookup y.1 = some .cell ∨ sc.names.lookup y.1 = some .free
  own : ∀ y ∈ scope.names, y.2 = .local ∨ y.2 = .cell → y.1 ∈ own.map (·.1) ∨ y.1 ∉ N
/-- the slots of the block's own names forgotten -/
def wipe (σ : St) : List Nat → St
  | [] => σ
  | v :: vs => (wipe σ vs).set v none
theorem wipe_length (σ : St) : ∀ vs : List Nat, (wipe σ vs).length = σ.length
  | [] => rfl
  | v :: vs => by unfold wipe; rw [List.length_set, wipe_length σ vs]
theorem wipe_some {σ : St} {i : Nat} {x : V} : ∀ {vs : List Nat}, (wipe σ vs)[i]? = some (some x) → σ[i]? = some (some x) ∧ i ∉ vs
  | [], h => ⟨h, by simp⟩
  | v :: vs, h => by
    unfold wipe at h
    by_cases hi : v = i
    · subst hi
      by_cases hv : v < (wipe σ vs).length
      · rw [List.getElem?_set_self hv] at h; cases h
      · rw [List.getElem?_eq_none (by simpa using hv)] at h; cases h
    · rw [List.getElem?_set_ne hi] at h
      obtain ⟨h1, h2⟩ := wipe_some h
      exact ⟨h1, by simp only [List.mem_cons, not_or]; exact ⟨fun e => hi e.symm, h2⟩⟩

/-- the context of a block that starts at s, its iterator's objects at fp -/
abbrev Cx.blk (X : Cx) (s : Shared) (H : Hp) (scope : Scope) (cenv : Env) (fp : List Addr) : Cx := { X with s_0 := s, H_0 := H, env := cenv, outer := X.stack, ex := fp, fn := fun x => scope.names.lookup x == some .cell, pn := [], xe := fun _ _ => False }
section
variable {X : Cx} {pins : List (Addr × Obj)} {σ : St} {H : Hp} {s : Shared}
theorem block_start {scope : Scope} {own : List (Str × Nat)} {fp : List Addr} (I : Inv X pins σ H s) (ok : BlkOk X.N X.env.scope scope own) (hN : X.N.Nodup) (hfp : ∀ b ∈ fp, FpOk X pins H b ∧ b < s.heap.objs.size) :
    Inv (X.blk s H scope (compEnvC scope (cellsFrom (s.heap.objs.size + 1) scope.names (cloFrom X.env.cells scope.names [])) s.heap.objs.size X.env) fp) [] (wipe σ (own.map (·.2))) H { s with heap := pushCells (s.heap.push { cls := .type "dict", data := .dict #[] }) scope.names } := by
  have hfree : ∀ y ∈ scope.names, y.2 = .free → ∃ c, X.env.cells.lookup y.1 = some c := fun y hy e => by
    rcases ok.free y hy e with k | k
    · exact I.ok.has _ (.inl k)
    · exact I.ok.has _ (.inr k)
  generalize hcenv : compEnvC scope (cellsFrom (s.heap.objs.size + 1) scope.names (cloFrom X.env.cells scope.names [])) s.heap.objs.size X.env = cenv
  have kp : ∀ b o, s.heap.get? b = some o → (pushCells (s.heap.push { cls := .type "dict", data := .dict #[] }) scope.names).get? b = some o := fun b o e => pushCells_keeps _ _ _ _ (Heap.get?_push_of_some _ e)
  have hL : cenv.locals = s.heap.objs.size := by rw [← hcenv]; rfl
  have hcl : cenv.cells = cellsFrom (s.heap.objs.size + 1) scope.names (cloFrom X.env.cells scope.names []) := by rw [← hcenv]; rfl
  have hsc : cenv.scope = relS scope X.env.scope := by rw [← hcenv]; rfl
  rw [← Heap.size_push s.heap { cls := .type "dict", data := .dict #[] }] at hcl
  have cm : ∀ {y c}, (y, c) ∈ cloFrom X.env.cells scope.names [] → X.env.cells.lookup y = some c ∧ c < s.heap.objs.size := fun {y c} hm => by
    rcases cloFrom_mem hm with hm | ⟨h1, rfl⟩
    · cases hm
    · obtain ⟨c, hc⟩ := hfree _ h1 rfl
      rw [hc]
      obtain ⟨w, z⟩ := I.cell _ _ hc
      exact ⟨rfl, z.lt⟩
  have mem : ∀ {y c}, cenv.cells.lookup y = some c → (X.env.cells.lookup y = some c ∧ c < s.heap.objs.size) ∨ (s.heap.objs.size + 1 ≤ c ∧ CellAt (pushCells (s.heap.push { cls := .type "dict", data := .dict #[] }) scope.names) c none) := fun {y c} e => by
    rw [hcl] at e
    rcases cells_mem (PySem.mem_of_lookup e) with hm | ⟨_, h2, h3⟩
    · exact .inl (cm hm)
    · rw [Heap.size_push] at h2; exact .inr ⟨h2, h3⟩
  have look : ∀ {y}, scope.names.lookup y = some .free → ∃ c, cenv.cells.lookup y = some c ∧ X.env.cells.lookup y = some c := fun {y} hl => by
    have hy : (y, NameKind.free) ∈ scope.names := PySem.mem_of_lookup hl
    obtain ⟨c', e'⟩ := mem_lookup (cells_acc (names := scope.names) (n := (s.heap.push { cls := .type "dict", data := .dict #[] }).objs.size) (cloFrom_has (cells := X.env.cells) (acc := []) hy))
    rw [← hcl] at e'
    refine ⟨c', e', ?_⟩
    rw [hcl] at e'
    rcases cells_mem (PySem.mem_of_lookup e') with hm | ⟨h1, _, _⟩
    · exact (cm hm).1
    · have := ok.uniq _ h1
      rw [hl] at this; cases this
  have okB : (X.blk s H scope cenv fp).Ok := by
    refine ⟨I.ok.mod, by show cenv.scope.kind = _; rw [hsc]; exact ok.kind, by show cenv.globals = _; rw [← hcenv]; exact I.ok.glob, by show cenv.builtins = _; rw [← hcenv]; exact I.ok.blt, by show s.heap.objs.size ≤ cenv.locals; rw [hL]; exact Nat.le_refl _,
      fun y z c e1 e2 => ?_, fun y hy => ?_, fun y c z e => ?_, I.ok.hd, I.ok.frames, .inl rfl, fun b hb => ⟨?_, fun y c e z => ?_⟩, I.bs, Nat.le_trans I.ok.bsz I.sz, fun b o e hb => ?_, fun b hb z => ?_, I.stack, I.stkFree⟩
    · have e1 : cenv.cells.lookup y = some c := e1
      have e2 : cenv.cells.lookup z = some c := e2
      rw [hcl] at e1 e2
      refine cells_inj (fun p hp => ?_) (fun y z c a b => I.ok.inj y z c (cm a).1 (cm b).1) (PySem.mem_of_lookup e1) (PySem.mem_of_lookup e2)
      rw [Heap.size_push]
      exact Nat.lt_succ_of_lt (cm (y := p.1) (c := p.2) hp).2
    · show ∃ c, cenv.cells.lookup y = some c
      have key : ∀ k, cenv.kindOf y = some k → (k = .cell ∨ k = .free) → ∃ c, cenv.cells.lookup y = some c := fun k hk hk' => by
        unfold Env.kindOf at hk
        rw [hsc] at hk
        obtain ⟨k', e, r⟩ := lookup_relS hk
        have : k' = .cell ∨ k' = .free := by
          rcases r with rfl | ⟨rfl, _⟩
          · exact hk'
          · exact .inr rfl
        rcases this with rfl | rfl
        · obtain ⟨c, hm⟩ := cells_has (n := (s.heap.push { cls := .type "dict", data := .dict #[] }).objs.size) (acc := cloFrom X.env.cells scope.names []) (PySem.mem_of_lookup e)
          obtain ⟨c', e'⟩ := mem_lookup hm
          exact ⟨c', by rw [hcl]; exact e'⟩
        · obtain ⟨c, h1, _⟩ := look e
          exact ⟨c, h1⟩
      rcases hy with hy | hy
      · exact key _ hy (.inl rfl)
      · exact key _ hy (.inr rfl)
    · have z : (scope.names.lookup y == some NameKind.cell) = true := z
      have z : scope.names.lookup y = some .cell := by simpa using z
      have e : cenv.cells.lookup y = some c := e
      rw [hcl] at e
      rcases cells_mem (PySem.mem_of_lookup e) with hm | ⟨_, h2, _⟩
      · rcases cloFrom_mem hm with hm | ⟨h1, _⟩
        · cases hm
        · have q := ok.uniq _ h1
          rw [z] at q; cases q
      · rw [Heap.size_push] at h2
        exact Nat.le_of_succ_le h2
    · show b ≠ cenv.locals
      rw [hL]; exact Nat.ne_of_lt (hfp b hb).2
    · have e : cenv.cells.lookup y = some c := e
      rcases mem e with ⟨h1, _⟩ | ⟨h1, _⟩
      · exact (hfp b hb).1.2.2.2.2.1 y c h1 z
      · have h2 : s.heap.objs.size + 1 ≤ b := by rw [← z]; exact h1
        exact absurd (Nat.lt_of_lt_of_le (hfp b hb).2 (Nat.le_of_succ_le h2)) (Nat.lt_irrefl _)
    · rcases (hfp b hb).1.2.2.2.1 with z | z
      · exact I.ok.noex b o e z
      · exact absurd (Nat.lt_of_lt_of_le (Heap.lt_size e) (Nat.le_trans I.ok.bsz z)) (Nat.lt_irrefl _)
    · rcases List.mem_cons.mp (I.stkSub b z) with z | z
      · exact (hfp b hb).1.2.1 z
      · exact (hfp b hb).1.2.2.1 z
  refine ⟨okB, rfl, I.bare, Un.kept kp, ⟨fun _ => none, ?_, fun i y av e1 e2 e3 => ?_⟩, fun y c e => ?_, ?_, fun y c e => ?_, fun p hp => ?_, I.hok.kept kp, by rw [wipe_length]; exact I.len⟩
  · show Heap.Ns _ cenv.locals _
    rw [hL]
    exact Heap.Ns.keeps (Heap.Ns.new ..) fun b o e => pushCells_keeps _ _ _ _ e
  · obtain ⟨e2, hne⟩ := wipe_some e2
    have hfr : scope.names.lookup y = some .free ∧ (cenv.kindOf y = some .cell ∨ cenv.kindOf y = some .free) := by
      have key : ∀ k, cenv.scope.names.lookup y = some k → k = .local ∨ k = .cell ∨ k = .free → scope.names.lookup y = some .free ∧ (cenv.kindOf y = some .cell ∨ cenv.kindOf y = some .free) := fun k hk hk' => by
        have hk0 := hk
        rw [hsc] at hk
        obtain ⟨k', e, r⟩ := lookup_relS hk
        have no : ¬ (k' = .local ∨ k' = .cell) := fun hh => by
          rcases ok.own _ (PySem.mem_of_lookup e) hh with e' | e'
          · obtain ⟨p, hp, hpy⟩ := List.mem_map.mp e'
            have e3 := ok.ix p hp
            have : p.1 = y := hpy
            rw [this] at e3
            exact hne (List.mem_map.mpr ⟨p, hp, nodup_ix hN e3 e1⟩)
          · exact e' (List.mem_of_getElem? e1)
        rcases r with rfl | ⟨rfl, rfl⟩
        · rcases hk' with rfl | rfl | rfl
          · exact absurd (.inl rfl) no
          · exact absurd (.inr rfl) no
          · exact ⟨e, .inr hk0⟩
        · exact ⟨e, .inl hk0⟩
      have e3 : Vis cenv.scope y := e3
      rcases e3 with e3 | e3 | e3
      · exact key _ e3 (.inl rfl)
      · exact key _ e3 (.inr (.inl rfl))
      · exact key _ e3 (.inr (.inr rfl))
    obtain ⟨m, hn, hl⟩ := I.loc
    have hvis : Vis X.env.scope y := (ok.free _ (PySem.mem_of_lookup hfr.1) rfl).elim (fun k => .inr (.inl k)) (fun k => .inr (.inr k))
    obtain ⟨w, r, q⟩ := hl i y av e1 e2 hvis
    refine ⟨w, r, .inr ⟨hfr.2, ?_⟩⟩
    obtain ⟨c, h1, h2⟩ := look hfr.1
    rcases q with ⟨k, _⟩ | ⟨_, c', e', z⟩
    · have k : X.env.scope.names.lookup y = some .local := k
      rcases ok.free _ (PySem.mem_of_lookup hfr.1) rfl with k' | k' <;> rw [show X.env.scope.names.lookup y = _ from k'] at k <;> cases k
    · rw [h2] at e'; cases e'
      exact ⟨c, h1, z.keeps kp⟩
  · have e : cenv.cells.lookup y = some c := e
    rcases mem e with ⟨h1, _⟩ | ⟨_, z⟩
    · obtain ⟨w, z⟩ := I.cell y c h1
      exact ⟨w, z.keeps kp⟩
    · exact ⟨_, z⟩
  · show H cenv.locals = none
    rw [hL]; exact I.hok.fresh (Nat.le_refl _)
  · have e : cenv.cells.lookup y = some c := e
    rcases mem e with ⟨h1, _⟩ | ⟨h1, _⟩
    · exact I.freeC y c h1
    · exact I.hok.fresh (Nat.le_of_succ_le h1)
  · exact absurd (show p ∈ ([] : List (Addr × Obj)) ++ [] from hp) (by simp)

/-- an item appended to a tracked list -/
theorem app_ok {E : Value → Shared → Prop} {D : Addr} {xs : List V} {y : V} {v : Value} {Q : Value → Shared → Prop} (I : Inv X pins σ H s) (hD : H D = some (.lst xs)) (hz : xs.length < sizeLine) (r : RelV y v)
    (h : ∀ s', Inv X pins σ (upd H D (.lst (xs ++ [y]))) s' → Q .none s') : wpAny (model X.prog X.w) X.A (call (.builtin "list.append") [.ref D, v]) Q E s := by
  obtain ⟨hz', its, n, ri, e⟩ := I.hok D _ hD
  have hl := ri.length
  refine append_at (hsz := by rw [List.size_toArray]; omega) e fun h' sb ho' => ?_
  refine h { s with heap := h' } (I.write (t' := s.toks) (by rw [hD]; trivial) (.inl rfl) (fun b u hb q => (sb.2 b hb).trans q) ⟨_, ho'⟩ ⟨by rw [List.length_append]; exact hz, its ++ [v], n + 1, ri.append (.cons r .nil), ?_⟩)
  rw [ho']
  simp

/-- a clause's tests -/
def PTs (X : Cx) (ifs : List Expr) (t : TT) : Prop :=
  ∀ (pins : List (Addr × Obj)) (s : Shared) (σ : St) (H : Hp) (Q : Bool → Hp → Prop), Inv X pins σ H s → t σ H Q →
    wpAny (model X.prog X.w) X.A (forIn ifs true fun c r => if r = true then do let ok ← isTrue c X.env (eval c X.env); pure (ForInStep.yield ok) else pure (ForInStep.yield r)) (TP X pins σ Q) X.xe s
def tYes : TT := fun _ H Q => Q true H
theorem pts_nil : PTs X [] tYes := fun _ _ _ H _ I h => wpAny_tests_nil ⟨H, I, h⟩
theorem pts_one {c : Expr} {t : TT} (h : PT X c t) : PTs X [c] t := fun pins s σ H Q I hw => wpAny_tests_one (h pins s σ H Q I hw)
end

theorem thnF {α : Type} {t : Sem α} {Q Q' : α → Shared → Prop} {M : Model} {A : Around} {E : Value → Shared → Prop} {s : Shared} (h : wpAny M A t Q (fun _ _ => False) s) (hQ : ∀ a s, Q a s → Q' a s) : wpAny M A t Q' E s := wpAny_mono h hQ fun _ _ z => False.elim z

/-- the loop of a list comprehension's block, the target of any form (codeAny_compLoop_tests asks a target that no tuple goes to; statement and proof follow it, PyProof/CompMap.lean:41-61, with the step letOwnedTupleGo kept) -/
theorem compLoop_any {prog : Program} {w : World} {A : Around} {R : Result → Shared → Prop} {s : Shared} {elt target iter : Expr} {ifs : List Expr} {scope : Scope} {pos : Pos} {it acc : Value} {env : Env} (I : Nat → Shared → Prop)
    (turn : ∀ n s, I n s → wpAny (model prog w) A (pyNext it) (fun r s₁ => match r with
      | none => R (.ok .next) s₁
      | some v => wpAny (model prog w) A (letOwnedTupleGo target it v) (fun _ s₁' => wpAny (model prog w) A (assign target env v) (fun _ s₂ =>
          wpAny (model prog w) A (forIn ifs true fun c r => if r = true then do let ok ← isTrue c env (eval c env); pure (ForInStep.yield ok) else pure (ForInStep.yield r)) (fun ok s₃ =>
            if ok = true then wpAny (model prog w) A (eval elt env) (fun x s₄ =>
              wpAny (model prog w) A (call (.builtin "list.append") [acc, x]) (fun _ s₅ => ∃ m, m < n ∧ I m s₅) (notedBy (model prog w) A env fun e s' => R (.error e) s') s₄) (notedBy (model prog w) A env fun e s' => R (.error e) s') s₃
            else ∃ m, m < n ∧ I m s₃) (notedBy (model prog w) A env fun e s' => R (.error e) s') s₂) (notedBy (model prog w) A env fun e s' => R (.error e) s') s₁') (notedBy (model prog w) A env fun e s' => R (.error e) s') s₁) (notedBy (model prog w) A env fun e s' => R (.error e) s') s)
    (n : Nat) (h : I n s) :
    codeAny (model prog w) A (.compLoop (.ListComp elt [⟨target, iter, ifs, 0⟩] scope pos) 0 it acc env) R s := by
  refine codeAny_loop rfl I (fun n s hI => ?_) n h
  show wpAny _ A ((compTurn (.ListComp elt [⟨target, iter, ifs, 0⟩] scope pos) 0 it acc env).onRaise (fun x => do noteFrame x env; theTreesLotGoes x)) _ _ s
  refine wpAny_noted ?_
  rw [compTurn_list]
  refine wpAny_bind (wpAny_standAt (wpAny_bind (wpAny_mono (turn n s hI) (fun r s₁ h₁ => ?_) fun _ _ h' => h')))
  cases r with
  | none => exact wpAny_pure h₁
  | some v =>
    refine wpAny_bind (wpAny_mono h₁ (fun _ s₁' h₁' => ?_) fun _ _ h' => h')
    refine wpAny_bind (wpAny_mono h₁' (fun _ s₂ h₂ => wpAny_bind (wpAny_mono h₂ (fun ok s₃ h₃ => ?_) fun _ _ h' => h')) fun _ _ h' => h')
    cases ok with
    | false => exact wpAny_pure ⟨rfl, h₃⟩
    | true =>
      exact wpAny_bind (wpAny_bind (wpAny_mono h₃ (fun x s₄ h₄ => wpAny_bind (wpAny_mono h₄ (fun _ s₅ h₅ => wpAny_pure (wpAny_pure ⟨rfl, h₅⟩)) fun _ _ h' => h')) fun _ _ h' => h'))

section
variable {X : Cx}
/-- [elt for target in iter if ..]: D the new list; W by the turn and a measure, Nx what a turn is to reach -/
def tLc (wi : TI) (g : TG) (tt : TT) (te : TE) (vs : List Nat) : TE := fun σ H Q => wi σ H fun J H1 => ∀ D, H1 D = none → ∃ W : Nat → Nat → Hp → Prop, (∃ m, W 0 m (upd H1 D (.lst []))) ∧ ∀ i m H, W i m H →
  (J.stop i H ∧ Q (.ref D) H) ∨ (J.go i H ∧ ∃ Nx : Hp → Prop, (∀ H', Nx H' → ∃ m', m' < m ∧ W (i + 1) m' H') ∧ ∀ x H', J.yld i H x H' → g x (wipe σ vs) H' fun σ2 H2 => wipe σ2 vs = wipe σ vs ∧ tt σ2 H2 fun b H3 =>
    if b = true then te σ2 H3 fun y H4 => ∃ acc, H4 D = some (.lst acc) ∧ acc.length < sizeLine ∧ Nx (upd H4 D (.lst (acc ++ [y]))) else Nx H3)
theorem lc_core {pins : List (Addr × Obj)} {s : Shared} {σ : St} {H : Hp} {Q : VK} {elt tg iter : Expr} {ifs : List Expr} {scope : Scope} {own : List (Str × Nat)} {pos pos' : Pos} {wi : TI} {g : TG} {tt : TT} {te : TE} {use : Option (Value → Sem Unit)} {Qf : Value → Shared → Prop}
    (hc : X.calm = true) (hN : X.N.Nodup) (I : Inv X pins σ H s) (hi : PI X tg iter wi) (ok : BlkOk X.N X.env.scope scope own)
    (hg : ∀ (s : Shared) (H : Hp) (C : Addr) (cl : List (Str × Addr)) (fp : List Addr), PG (X.blk s H scope (compEnvC scope cl C X.env) fp) tg g) (ht : ∀ (s : Shared) (H : Hp) (C : Addr) (cl : List (Str × Addr)) (fp : List Addr), PTs (X.blk s H scope (compEnvC scope cl C X.env) fp) ifs tt)
    (he : ∀ (s : Shared) (H : Hp) (C : Addr) (cl : List (Str × Addr)) (fp : List Addr), PE (X.blk s H scope (compEnvC scope cl C X.env) fp) elt te) (hs : ∀ x, foldedSetIterable iter X.env x = pure x)
    (h : tLc wi g tt te (own.map (·.2)) σ H Q)
    (hRR : ∀ D C s' m H', Inv X pins σ H' s' → Q (.ref D) H' → s'.heap.Ns C m → FpOk X pins H' C → compPost (model X.prog X.w) X.A X.xe use Qf (.ref D) C (.ok .next) s') :
    wpAny (model X.prog X.w) X.A (comprehension (.ListComp elt [⟨tg, iter, ifs, 0⟩] scope pos) scope X.env pos' (newList []) false (eval iter X.env) use) Qf X.xe s := by
  have hfree : ∀ y ∈ scope.names, y.2 = .free → ∃ c, X.env.cells.lookup y.1 = some c := fun y hy e => by
    rcases ok.free y hy e with k | k
    · exact I.ok.has _ (.inl k)
    · exact I.ok.has _ (.inr k)
  refine wpAny_comprehension_free (use := use) rfl hs (closure_ok hfree) ok.kind (fun y hy e => by rw [ok.uniq y hy, e])
    (thn (hi pins s σ H _ I h) fun xv s1 hx => thn hx fun itv s2 h2 => ?_)
  obtain ⟨it, fp, tn, J, H2, e, I2, T, st2, f2, q⟩ := h2
  subst e
  refine wpAny_newObj_type (newEnv_comp ?_) (by show 0 ≤ sizeLine; decide)
  generalize hD : s2.heap.objs.size = D
  have hDn : H2 D = none := I2.hok.fresh (Nat.le_of_eq hD)
  obtain ⟨W, ⟨m0, w0⟩, turn⟩ := q D hDn
  -- the new list
  generalize hs3 : ({ s2 with heap := s2.heap.push { cls := .type "list", data := .seq ([] : List Value).toArray } } : Shared) = s3
  have I3 : Inv X pins σ (upd H2 D (.lst [])) s3 := by
    rw [← hs3]
    refine I2.laid (t' := s2.toks) (fun b o e => Heap.get?_push_of_some _ e) (Nat.le_of_eq hD) ⟨Nat.zero_le _, [], 0, .nil, ?_⟩
    rw [← hD]
    exact Heap.get?_push_size _ rfl
  have h3 : s3.heap = s2.heap.push { cls := .type "list", data := .seq ([] : List Value).toArray } := by rw [← hs3]
  have sz : ∀ b ∈ fp, b < s2.heap.objs.size := fun b hb => by
    obtain ⟨o, e, _⟩ := T.obj _ _ st2 b hb
    exact Heap.lt_size e
  have f3 : ∀ b ∈ fp, FpOk X pins (upd H2 D (.lst [])) b ∧ b < s3.heap.objs.size := fun b hb => by
    have hlt := sz b hb
    refine ⟨⟨?_, (f2 b hb).2⟩, by rw [h3, Heap.size_push]; exact Nat.lt_succ_of_lt hlt⟩
    rw [upd_ne (by rw [← hD]; exact Nat.ne_of_lt hlt)]
    exact (f2 b hb).1
  have st3 : tn 0 s3.heap := T.keep _ _ _ st2 fun b _ o e => by rw [h3]; exact Heap.get?_push_of_some _ e
  have I4 := block_start I3 ok hN f3
  have pg := hg s3 (upd H2 D (.lst [])) s3.heap.objs.size (cellsFrom (s3.heap.objs.size + 1) scope.names (cloFrom X.env.cells scope.names [])) fp
  have pt := ht s3 (upd H2 D (.lst [])) s3.heap.objs.size (cellsFrom (s3.heap.objs.size + 1) scope.names (cloFrom X.env.cells scope.names [])) fp
  have pe := he s3 (upd H2 D (.lst [])) s3.heap.objs.size (cellsFrom (s3.heap.objs.size + 1) scope.names (cloFrom X.env.cells scope.names [])) fp
  show codeAny _ _ (.compStart (.ListComp elt [⟨tg, iter, ifs, 0⟩] scope pos) 0 (.ref it) (.ref D) (compEnvC scope (cellsFrom (s3.heap.objs.size + 1) scope.names (cloFrom X.env.cells scope.names [])) s3.heap.objs.size X.env)) (compPost (model X.prog X.w) X.A X.xe use Qf (.ref D) s3.heap.objs.size) { s3 with heap := pushCells (s3.heap.push { cls := .type "dict", data := .dict #[] }) scope.names }
  have nfp : ∀ b ∈ fp, (upd H2 D (.lst [])) b = none := fun b hb => (f3 b hb).1.1
  generalize hce : compEnvC scope (cellsFrom (s3.heap.objs.size + 1) scope.names (cloFrom X.env.cells scope.names [])) s3.heap.objs.size X.env = ce at I4 pg pt pe ⊢
  have cL : ce.locals = s3.heap.objs.size := by subst hce; rfl
  generalize hH3 : upd H2 D (.lst []) = H3 at I3 I4 pg pt pe w0 nfp f3
  generalize hs4 : ({ s3 with heap := pushCells (s3.heap.push { cls := .type "dict", data := .dict #[] }) scope.names } : Shared) = s4 at I4 ⊢
  have st4 : tn 0 s4.heap := T.keep _ _ _ st3 fun b _ o e => by rw [← hs4]; exact pushCells_keeps _ _ _ _ (Heap.get?_push_of_some _ e)
  have stat : ∀ {σ' : St} {H' : Hp} {s' : Shared}, Inv (X.blk s3 H3 scope ce fp) [] σ' H' s' → (∀ b ∈ fp, H' b = none) → ∀ b ∈ fp, FpOk (X.blk s3 H3 scope ce fp) [] H' b := fun {σ' H' s'} I' hn b hb =>
    ⟨hn b hb, (I'.ok.exf b hb).1, I'.ok.exfs b hb, .inl hb, fun x c e => (I'.ok.exf b hb).2 x c e, fun p hp => absurd (show p ∈ ([] : List (Addr × Obj)) ++ [] from hp) (by simp)⟩
  have loop : codeAny (model X.prog X.w) X.A (.compLoop (.ListComp elt [⟨tg, iter, ifs, 0⟩] scope pos) 0 (.ref it) (.ref D) ce) (compPost (model X.prog X.w) X.A X.xe use Qf (.ref D) s3.heap.objs.size) s4 := by
    refine compLoop_any (fun n s' => ∃ i H', Inv (X.blk s3 H3 scope ce fp) [] (wipe σ (own.map (·.2))) H' s' ∧ tn i s'.heap ∧ (∀ b ∈ fp, H' b = none) ∧ W i n H') ?_ m0 ⟨0, H3, I4, st4, nfp, w0⟩
    rintro n s5 ⟨i, H5, I5, st5, n5, w5⟩
    rcases turn i n H5 w5 with ⟨stop, qq⟩ | ⟨go, Nx, hNx, step⟩
    · have td := T.done (X.blk s3 H3 scope ce fp) rfl rfl rfl hc i [] s5 _ H5 (fun _ _ => False) I5 (stat I5 n5) st5 stop
      refine thnF td fun r s6 ⟨hr, I6⟩ => ?_
      subst hr
      -- back in the def's context
      have I7 : Inv X pins σ H5 s6 := I3.call' (ch := fp) I6.os I6.base I6.hok I6.bare fun b hb => ⟨(f3 b hb).1.2.2.2.1, (f3 b hb).1.2.1, (f3 b hb).1.2.2.2.2.1, (f3 b hb).1.2.2.2.2.2⟩
      have nC : H5 s3.heap.objs.size = none := by
        have z : H5 ce.locals = none := I6.free
        rw [cL] at z
        exact z
      obtain ⟨m, hn, _⟩ := I6.loc
      have hn : s6.heap.Ns ce.locals m := hn
      rw [cL] at hn
      exact hRR D s3.heap.objs.size s6 m H5 I7 qq hn (I3.fpOk (Nat.le_refl _) nC)
    · have ti := T.item (X.blk s3 H3 scope ce fp) rfl rfl rfl hc i [] s5 _ H5 (fun _ _ => False) I5 (stat I5 n5) st5 go
      refine thnF ti fun r s6 ⟨u, hr, h6⟩ => ?_
      subst hr
      refine thnF h6 fun _ s7 ⟨x, H7, I7, r7, y7, st7, n7⟩ => ?_
      have I7' := I7.pinned (stat I7 n7) (T.obj _ _ st7)
      refine thnF (pg _ s7 _ H7 x u _ I7' r7 (step x H7 y7)) fun _ s8 ⟨σ8, H8, I8, hw8, q8⟩ => ?_
      refine thnF (pt _ s8 σ8 H8 _ I8 q8) fun b s9 ⟨H9, I9, q9⟩ => ?_
      -- the turn's end
      have fin : ∀ {s' : Shared} {H' : Hp}, Inv (X.blk s3 H3 scope ce fp) ([] ++ pinsAt fp s7.heap) σ8 H' s' → Nx H' → ∃ m, m < n ∧ ∃ i H', Inv (X.blk s3 H3 scope ce fp) [] (wipe σ (own.map (·.2))) H' s' ∧ tn i s'.heap ∧ (∀ b ∈ fp, H' b = none) ∧ W i m H' := fun {s' H'} I' nx => by
        obtain ⟨m', hm, w'⟩ := hNx H' nx
        have pin' : ∀ b ∈ fp, ∀ o, s7.heap.get? b = some o → s'.heap.get? b = some o ∧ H' b = none := fun b hb o e =>
          let z := I'.pin (b, o) (List.mem_append_right _ (List.mem_append_right _ (mem_pinsAt hb e)))
          ⟨z.1, z.2.1⟩
        have hl : (wipe σ (own.map (·.2))).length = σ8.length := by rw [← hw8, wipe_length]
        refine ⟨m', hm, i + 1, H', (I'.unpinned (pins := [])).weak hl (fun j v e => ?_), T.keep _ _ _ st7 fun b hb o e => (pin' b hb o e).1, fun b hb => ?_, w'⟩
        · rw [← hw8] at e
          exact (wipe_some e).1
        · obtain ⟨o, e, _⟩ := T.obj _ _ st7 b hb
          exact (pin' b hb o e).2
      cases b with
      | false =>
        simp only [Bool.false_eq_true, if_false] at q9 ⊢
        exact fin I9 q9
      | true =>
        simp only [if_true] at q9 ⊢
        refine thnF (pe _ s9 σ8 H9 _ I9 q9) fun z s10 ⟨yv, H10, I10, r10, acc, hD10, hz10, nx⟩ => ?_
        exact app_ok (X := X.blk s3 H3 scope ce fp) I10 hD10 hz10 r10 fun s11 I11 => fin I11 nx
  exact codeAny_compStart_list loop (T.self X.A 0 _ _ _ st4 loop)
/-- as a value -/
theorem pe_lc {elt tg iter : Expr} {ifs : List Expr} {scope : Scope} {own : List (Str × Nat)} {pos : Pos} {wi : TI} {g : TG} {tt : TT} {te : TE} (hc : X.calm = true) (hN : X.N.Nodup) (hi : PI X tg iter wi) (ok : BlkOk X.N X.env.scope scope own)
    (hg : ∀ (s : Shared) (H : Hp) (C : Addr) (cl : List (Str × Addr)) (fp : List Addr), PG (X.blk s H scope (compEnvC scope cl C X.env) fp) tg g) (ht : ∀ (s : Shared) (H : Hp) (C : Addr) (cl : List (Str × Addr)) (fp : List Addr), PTs (X.blk s H scope (compEnvC scope cl C X.env) fp) ifs tt)
    (he : ∀ (s : Shared) (H : Hp) (C : Addr) (cl : List (Str × Addr)) (fp : List Addr), PE (X.blk s H scope (compEnvC scope cl C X.env) fp) elt te) (hs : ∀ x, foldedSetIterable iter X.env x = pure x := by intro _; rfl) :
    PE X (.ListComp elt [⟨tg, iter, ifs, 0⟩] scope pos) (tLc wi g tt te (own.map (·.2))) := by
  intro pins s σ H Q I h
  rw [eval_ListComp]
  refine lc_core hc hN I hi ok hg ht he hs h fun D C s' m H' I' q hn f => ⟨m, hn, fun h'' sb => ?_⟩
  obtain ⟨f0, f1, f2, f3, f4, f5⟩ := f
  exact ⟨.ref D, H', I'.turned (t' := s'.toks) (fun b o hb e => (sb.2 b hb).trans e) f0 f1 f3 f4 f5, rfl, q⟩
/-- name = [..] on one line, the name a local -/
theorem ps_setLc {i : Nat} {y : Str} {py : Pos} {elt tg iter : Expr} {ifs : List Expr} {scope : Scope} {own : List (Str × Nat)} {pos spos : Pos} {wi : TI} {g : TG} {tt : TT} {te : TE} (hc : X.calm = true) (hN : X.N.Nodup) (hy : X.N[i]? = some y) (hyl : X.env.scope.names.lookup y = some .local)
    (hsw : swapsWith (.ListComp elt [⟨tg, iter, ifs, 0⟩] scope pos) (some (.Name y py)) spos.line X.env = pure true) (hi : PI X tg iter wi) (ok : BlkOk X.N X.env.scope scope own)
    (hg : ∀ (s : Shared) (H : Hp) (C : Addr) (cl : List (Str × Addr)) (fp : List Addr), PG (X.blk s H scope (compEnvC scope cl C X.env) fp) tg g) (ht : ∀ (s : Shared) (H : Hp) (C : Addr) (cl : List (Str × Addr)) (fp : List Addr), PTs (X.blk s H scope (compEnvC scope cl C X.env) fp) ifs tt)
    (he : ∀ (s : Shared) (H : Hp) (C : Addr) (cl : List (Str × Addr)) (fp : List Addr), PE (X.blk s H scope (compEnvC scope cl C X.env) fp) elt te) (hs : ∀ x, foldedSetIterable iter X.env x = pure x := by intro _; rfl) :
    PS X (.Assign [.Name y py] (.ListComp elt [⟨tg, iter, ifs, 0⟩] scope pos) spos) (tAsg (tLc wi g tt te (own.map (·.2))) (gName i)) := by
  intro pins s σ H D I h
  rw [exec_Assign_Name_used _ _ _ _ hsw]
  refine wpAny_bind (wpAny_standAt (wpAny_bind ?_))
  show wpAny _ X.A (do let _ ← comprehension (.ListComp elt [⟨tg, iter, ifs, 0⟩] scope pos) scope X.env (firstIterPos [⟨tg, iter, ifs, 0⟩] pos) (newList []) false (eval iter X.env) (some (assign (.Name y py) X.env))) _ _ s
  have h : tLc wi g tt te (own.map (·.2)) σ H (fun x H1 => gName i x σ H1 D.nx) := h
  refine wpAny_bind (thn (lc_core (Qf := fun _ s' => SP X pins D .next s') hc hN I hi ok hg ht he hs h fun L C s' m H' I' q hn f => ?_) fun _ s' hq => wpAny_pure (wpAny_pure hq))
  show wpAny _ _ (assign (.Name y py) X.env (.ref L)) _ _ _
  refine wpAny_assign_Name (store_ok2 (v := V.ref L) I' hN hy (.inl hyl) rfl (fun s2 I2 ⟨a, sb, ha⟩ => ?_) (.inr hyl))
  obtain ⟨f0, f1, f2, f3, f4, f5⟩ := f
  have haC : C ≠ a := by
    rcases ha with z | z
    · rw [z]; exact f1
    · exact fun e => f4 y a z e.symm
  refine ⟨m, hn.sameBut sb haC, fun h3 sb3 => ?_⟩
  exact ⟨_, H', I2.turned (t' := s2.toks) (fun b o hb e => (sb3.2 b hb).trans e) f0 f1 f3 f4 f5, q⟩
theorem sw_true {elt : Expr} {gs : List Comprehension} {scope : Scope} {pos py : Pos} {y : Str} {l : Nat} {env : Env} (hk : env.scope.kind = .function) (hy : env.scope.names.lookup y = some .local) (hl : (py.line == pos.line) = true)
    (ha : (scope.names.any fun (n, k) => n == y && (k == .local || k == .cell)) = false) : swapsWith (.ListComp elt gs scope pos) (some (.Name y py)) l env = pure true := by
  have ky : env.kindOf y = some .local := hy
  have hb : env.blockKind = .function := by unfold Env.blockKind; rw [hk]; rfl
  unfold swapsWith
  simp only [hb, ky, ha, Expr.pos, hl]
  rfl
end

/-! ### the forms one uses -/
/-- over a range: Pv by the turn and the heap (the new list at D within) -/
theorem lc_range {lo : Int} {n : Nat} {g : TG} {tt : TT} {te : TE} {vs : List Nat} {σ : St} {H1 : Hp} {D : Addr} {Qd : Hp → Prop} (Pv : Nat → Hp → Prop) (h0 : Pv 0 (upd H1 D (.lst [])))
    (hs : ∀ i H, i < n → Pv i H → g (.int (lo + i)) (wipe σ vs) H fun σ2 H2 => wipe σ2 vs = wipe σ vs ∧ tt σ2 H2 fun b H3 =>
      if b = true then te σ2 H3 fun y H4 => ∃ acc, H4 D = some (.lst acc) ∧ acc.length < sizeLine ∧ Pv (i + 1) (upd H4 D (.lst (acc ++ [y]))) else Pv (i + 1) H3) (hd : ∀ H, Pv n H → Qd H) :
    ∃ W : Nat → Nat → Hp → Prop, (∃ m, W 0 m (upd H1 D (.lst []))) ∧ ∀ i m H, W i m H →
      ((Itr lo n).stop i H ∧ Qd H) ∨ ((Itr lo n).go i H ∧ ∃ Nx : Hp → Prop, (∀ H', Nx H' → ∃ m', m' < m ∧ W (i + 1) m' H') ∧ ∀ x H', (Itr lo n).yld i H x H' → g x (wipe σ vs) H' fun σ2 H2 => wipe σ2 vs = wipe σ vs ∧ tt σ2 H2 fun b H3 =>
        if b = true then te σ2 H3 fun y H4 => ∃ acc, H4 D = some (.lst acc) ∧ acc.length < sizeLine ∧ Nx (upd H4 D (.lst (acc ++ [y]))) else Nx H3) := by
  refine ⟨fun i m H => m = n - i ∧ i ≤ n ∧ Pv i H, ⟨n, by simp, Nat.zero_le _, h0⟩, ?_⟩
  rintro i m H ⟨rfl, hi, p⟩
  by_cases hlt : i < n
  · refine .inr ⟨hlt, Pv (i + 1), fun H' p' => ⟨n - (i + 1), by omega, rfl, hlt, p'⟩, fun x H' y => ?_⟩
    obtain ⟨e, y⟩ := y
    subst e y
    exact hs i _ hlt p
  · have e : i = n := by omega
    subst e
    exact .inl ⟨Nat.le_refl _, hd H p⟩
/-- over a list that the block leaves as it is -/
theorem lc_list {K : PySem.W.Frag} {a : Addr} {xs : List V} {g : TG} {tt : TT} {te : TE} {vs : List Nat} {σ : St} {H1 : Hp} {D : Addr} {Qd : Hp → Prop} (Pv : Nat → Hp → Prop) (h0 : Pv 0 (upd H1 D (.lst []))) (hl : ∀ i H, i ≤ xs.length → Pv i H → SqL K H a xs)
    (hs : ∀ i x H, xs[i]? = some x → Pv i H → g x (wipe σ vs) H fun σ2 H2 => wipe σ2 vs = wipe σ vs ∧ tt σ2 H2 fun b H3 =>
      if b = true then te σ2 H3 fun y H4 => ∃ acc, H4 D = some (.lst acc) ∧ acc.length < sizeLine ∧ Pv (i + 1) (upd H4 D (.lst (acc ++ [y]))) else Pv (i + 1) H3) (hd : ∀ H, Pv xs.length H → Qd H) :
    ∃ W : Nat → Nat → Hp → Prop, (∃ m, W 0 m (upd H1 D (.lst []))) ∧ ∀ i m H, W i m H →
      ((Itl K a).stop i H ∧ Qd H) ∨ ((Itl K a).go i H ∧ ∃ Nx : Hp → Prop, (∀ H', Nx H' → ∃ m', m' < m ∧ W (i + 1) m' H') ∧ ∀ x H', (Itl K a).yld i H x H' → g x (wipe σ vs) H' fun σ2 H2 => wipe σ2 vs = wipe σ vs ∧ tt σ2 H2 fun b H3 =>
        if b = true then te σ2 H3 fun y H4 => ∃ acc, H4 D = some (.lst acc) ∧ acc.length < sizeLine ∧ Nx (upd H4 D (.lst (acc ++ [y]))) else Nx H3) := by
  refine ⟨fun i m H => m = xs.length - i ∧ i ≤ xs.length ∧ Pv i H, ⟨xs.length, by simp, Nat.zero_le _, h0⟩, ?_⟩
  rintro i m H ⟨rfl, hi, p⟩
  have q := hl i H hi p
  by_cases hlt : i < xs.length
  · refine .inr ⟨⟨xs, xs[i], q, by simp [hlt]⟩, Pv (i + 1), fun H' p' => ⟨xs.length - (i + 1), by omega, rfl, hlt, p'⟩, fun x H' y => ?_⟩
    obtain ⟨e, y⟩ := y
    subst e
    exact hs i x _ (y xs q) p
  · have e : i = xs.length := by omega
    subst e
    exact .inl ⟨⟨xs, q, Nat.le_refl _⟩, hd H p⟩
def blkC (N : List Str) (sc scope : Scope) (own : List (Str × Nat)) : Bool :=
  (match scope.kind with | .function => true | _ => false) && (scope.names.all fun y => decide (scope.names.lookup y.1 = some y.2)) && (own.all fun p => decide (N[p.2]? = some p.1)) &&
    (scope.names.all fun y => match y.2 with
      | .free => (match sc.names.lookup y.1 with | some .cell => true | some .free => true | _ => false)
      | .local => decide (y.1 ∈ own.map (·.1)) || decide (y.1 ∉ N)
      | .cell => decide (y.1 ∈ own.map (·.1)) || decide (y.1 ∉ N)
      | _ => true)
theorem blkOk_by {N : List Str} {sc scope : Scope} {own : List (Str × Nat)} (h : blkC N sc scope own = true) : BlkOk N sc scope own := by
  unfold blkC at h
  simp only [Bool.and_eq_true, List.all_eq_true, decide_eq_true_eq] at h
  obtain ⟨⟨⟨h1, h2⟩, h3⟩, h4⟩ := h
  refine ⟨?_, h2, h3, fun y hy e => ?_, fun y hy e => ?_⟩
  · split at h1
    · assumption
    · cases h1
  · have q := h4 y hy
    simp only [e] at q
    split at q <;> first | exact .inl (by assumption) | exact .inr (by assumption) | cases q
  · have q := h4 y hy
    rcases e with e | e <;> (simp only [e, Bool.or_eq_true, decide_eq_true_eq] at q; exact q)
end L2

namespace L2
open PySem PySem.Spec PyProof.Rows

theorem compTurn2_out (elt t0 i0 t1 i1 : Expr) (ifs0 ifs1 : List Expr) (scope : Scope) (pos : Pos) (it acc : Value) (env : Env) :
    compTurn (.ListComp elt [⟨t0, i0, ifs0, 0⟩, ⟨t1, i1, ifs1, 0⟩] scope pos) 0 it acc env = (do
      standAt i0.pos
      match ← pyNext it with
      | none => pure (.done .next)
      | some v =>
        letOwnedTupleGo t0 it v
        assign t0 env v
        let mut ok := true
        for c in ifs0 do
          if ok then ok ← isTrue c env (eval c env)
        if ok then
          let x ← eval i1 env
          standAt i1.pos
          let x ← foldedSetIterable i1 env x
          let _ ← runOwn (.compStart (.ListComp elt [⟨t0, i0, ifs0, 0⟩, ⟨t1, i1, ifs1, 0⟩] scope pos) 1 (← holding [x] (pyIter x)) acc env) env
        again (.compLoop (.ListComp elt [⟨t0, i0, ifs0, 0⟩, ⟨t1, i1, ifs1, 0⟩] scope pos) 0 it acc env)) := by rfl
theorem compTurn2_in (elt t0 i0 t1 i1 : Expr) (ifs0 ifs1 : List Expr) (scope : Scope) (pos : Pos) (it acc : Value) (env : Env) :
    compTurn (.ListComp elt [⟨t0, i0, ifs0, 0⟩, ⟨t1, i1, ifs1, 0⟩] scope pos) 1 it acc env = (do
      standAt i1.pos
      match ← pyNext it with
      | none => pure (.done .next)
      | some v =>
        letOwnedTupleGo t1 it v
        assign t1 env v
        let mut ok := true
        for c in ifs1 do
          if ok then ok ← isTrue c env (eval c env)
        if ok then
          (do let _ ← call (.builtin "list.append") [acc, ← eval elt env])
        again (.compLoop (.ListComp elt [⟨t0, i0, ifs0, 0⟩, ⟨t1, i1, ifs1, 0⟩] scope pos) 1 it acc env)) := by rfl

section
variable {prog : Program} {w : World} {A : Around} {R : Result → Shared → Prop} {s : Shared} {elt t0 i0 t1 i1 : Expr} {ifs0 ifs1 : List Expr} {scope : Scope} {pos : Pos} {it acc : Value} {env : Env}
end

section
variable {X : Cx}
/-- [elt for tg in iter if .. for tg1 in iter1 if ..]: behind the first clause's store and tests the second source's own loop, from which Nx is reached. vs: the block's names; vs1: those of the second target -/
def tLc2 (wi : TI) (g : TG) (tt : TT) (wi1 : TI) (g1 : TG) (tt1 : TT) (te : TE) (vs vs1 : List Nat) : TE := fun σ H Q => wi σ H fun J H1 => ∀ D, H1 D = none → ∃ W : Nat → Nat → Hp → Prop, (∃ m, W 0 m (upd H1 D (.lst []))) ∧ ∀ i m H, W i m H →
  (J.stop i H ∧ Q (.ref D) H) ∨ (J.go i H ∧ ∃ Nx : Hp → Prop, (∀ H', Nx H' → ∃ m', m' < m ∧ W (i + 1) m' H') ∧ ∀ x H', J.yld i H x H' → g x (wipe σ vs) H' fun σ2 H2 => wipe σ2 vs = wipe σ vs ∧ tt σ2 H2 fun b H3 =>
    if b = true then wi1 σ2 H3 fun J1 H4 => ∃ W1 : Nat → Nat → Hp → Prop, (∃ m, W1 0 m H4) ∧ ∀ j k H, W1 j k H →
      (J1.stop j H ∧ Nx H) ∨ (J1.go j H ∧ ∃ Nx1 : Hp → Prop, (∀ H', Nx1 H' → ∃ k', k' < k ∧ W1 (j + 1) k' H') ∧ ∀ x H', J1.yld j H x H' → g1 x (wipe σ2 vs1) H' fun σ3 H5 => wipe σ3 vs1 = wipe σ2 vs1 ∧ tt1 σ3 H5 fun b H6 =>
        if b = true then te σ3 H6 fun y H7 => ∃ acc, H7 D = some (.lst acc) ∧ acc.length < sizeLine ∧ Nx1 (upd H7 D (.lst (acc ++ [y]))) else Nx1 H6)
    else Nx H3)
end
end L2

namespace L2
open PySem PySem.Spec PyProof.Rows

/-! ### lists of pairs as tables -/
section
variable {κ : Type} [DecidableEq κ]
def valV (kvs : List (κ × V)) (k : κ) : Option V := (kvs.find? fun kv => decide (kv.1 = k)).map (·.2)
/-- in its place, or at the end -/
def putK (kvs : List (κ × V)) (k : κ) (v : V) : List (κ × V) :=
  if (kvs.any fun kv => decide (kv.1 = k)) = true then kvs.map (fun kv => if kv.1 = k then (kv.1, v) else kv) else kvs ++ [(k, v)]
def dropK (kvs : List (κ × V)) (k : κ) : List (κ × V) := kvs.filter fun kv => decide (kv.1 ≠ k)

theorem valV_nil {k : κ} : valV ([] : List (κ × V)) k = none := rfl
theorem valV_pos {p : κ × V} {r : List (κ × V)} {k : κ} (e : p.1 = k) : valV (p :: r) k = some p.2 := by simp [valV, List.find?_cons, e]
theorem valV_neg {p : κ × V} {r : List (κ × V)} {k : κ} (e : ¬ p.1 = k) : valV (p :: r) k = valV r k := by simp [valV, List.find?_cons, e]
theorem valV_any (k : κ) : ∀ kvs : List (κ × V), (kvs.any fun kv => decide (kv.1 = k)) = (valV kvs k).isSome
  | [] => rfl
  | p :: r => by
    rw [List.any_cons]
    by_cases e : p.1 = k
    · simp only [valV_pos e, decide_eq_true e, Bool.true_or, Option.isSome_some]
    · rw [valV_neg e, decide_eq_false e, Bool.false_or]; exact valV_any k r
theorem length_putK (kvs : List (κ × V)) (k : κ) (v : V) : (putK kvs k v).length ≤ kvs.length + 1 := by
  unfold putK
  split
  · rw [List.length_map]; omega
  · rw [List.length_append, List.length_cons, List.length_nil]; omega
theorem RelO.isSome_eq {o : Option V} {u : Option Value} (r : RelO o u) : o.isSome = u.isSome := by
  cases o with
  | none => cases u with
    | none => rfl
    | some _ => exact (show False from r).elim
  | some _ => cases u with
    | none => exact (show False from r).elim
    | some _ => rfl
/-- raw tables of the same keys -/
theorem KV.val {kvs : List (κ × V)} {vs : List (κ × Value)} (r : KV kvs vs) (k : κ) : RelO (valV kvs k) (valueAt vs k) := by
  unfold KV at r
  induction r with
  | nil => exact True.intro
  | @cons p q ps qs h t ih =>
    obtain ⟨h1, h2⟩ := h
    by_cases e : p.1 = k
    · have e' : q.1 = k := h1.symm.trans e
      have b : valueAt (q :: qs) k = some q.2 := by simp [valueAt, List.find?_cons, e']
      rw [valV_pos e, b]; exact h2
    · have e' : ¬ q.1 = k := fun z => e (h1.trans z)
      have b : valueAt (q :: qs) k = valueAt qs k := by simp [valueAt, List.find?_cons, e']
      rw [valV_neg e, b]; exact ih
theorem KV.any {kvs : List (κ × V)} {vs : List (κ × Value)} (r : KV kvs vs) (k : κ) : (kvs.any fun kv => decide (kv.1 = k)) = vs.any fun kv => decide (kv.1 = k) := by
  unfold KV at r
  induction r with
  | nil => rfl
  | cons h t ih => rw [List.any_cons, List.any_cons, ih, h.1]
theorem KV.repl {kvs : List (κ × V)} {vs : List (κ × Value)} (r : KV kvs vs) (k : κ) {y : V} {u : Value} (ry : RelV y u) :
    KV (kvs.map fun kv => if kv.1 = k then (kv.1, y) else kv) (vs.map fun kv => if kv.1 = k then (kv.1, u) else kv) := by
  unfold KV at r ⊢
  induction r with
  | nil => exact .nil
  | @cons p q ps qs h t ih =>
    rw [List.map_cons, List.map_cons]
    refine .cons ?_ ih
    obtain ⟨h1, h2⟩ := h
    by_cases e : p.1 = k
    · rw [if_pos e, if_pos (h1.symm.trans e)]; exact ⟨h1, ry⟩
    · rw [if_neg e, if_neg (fun z => e (h1.trans z))]; exact ⟨h1, h2⟩
theorem KV.put {kvs : List (κ × V)} {vs : List (κ × Value)} (r : KV kvs vs) (k : κ) {y : V} {u : Value} (ry : RelV y u) : KV (putK kvs k y) (stored vs k u) := by
  unfold putK stored
  rw [r.any k]
  by_cases e : (vs.any fun kv => decide (kv.1 = k)) = true
  · rw [if_pos e, if_pos e]; exact r.repl k ry
  · rw [if_neg e, if_neg e]; exact Paired.snoc r ⟨rfl, ry⟩
theorem KV.length {kvs : List (κ × V)} {vs : List (κ × Value)} (r : KV kvs vs) : kvs.length = vs.length := Paired.length r
end


/-! ### a tracked dict, its keys ints and texts or tuples of these -/
theorem kV_is {P : Program} {w : World} {k : Key} {u : Value} (r : RelV (kV k) u) : (mixKind P w).is k u = true := by
  cases k with
  | inl i => obtain ⟨t, e⟩ := (show ∃ t, u = Value.int i t from r); subst e; exact mixKind_int P w i t
  | inr x => obtain ⟨t, e⟩ := (show ∃ t, u = Value.str x t from r); subst e; exact mixKind_str P w x t
theorem items_are {P : Program} {w : World} : ∀ {ks : List Key} {us : List Value}, Vals (ks.map kV) us → ItemsAre (mixKind P w) ks us
  | [], _, r => by rw [List.map_nil] at r; cases r; exact .nil
  | k :: ks, _, r => by
    rw [List.map_cons] at r
    cases r with
    | cons h t => exact .cons (kV_is h) (items_are t)

/-- raw entries of a dict with tuple keys -/
abbrev KT (H : Hp) : List (List Key × V) → List (List Key × Addr × Value) → Prop := Paired fun p q => p.1 = q.1 ∧ H q.2.1 = some (.tup (p.1.map kV)) ∧ RelV p.2 q.2.2
theorem KT.val {H : Hp} {kvs : List (List Key × V)} {xs : List (List Key × Addr × Value)} (r : KT H kvs xs) (k : List Key) : RelO (valV kvs k) ((atKey xs k).map (·.2)) := by
  induction r with
  | nil => exact True.intro
  | @cons p q ps qs h t ih =>
    obtain ⟨h1, _, h2⟩ := h
    by_cases e : p.1 = k
    · have e' : q.1 = k := h1.symm.trans e
      have b : atKey (q :: qs) k = some q.2 := by simp [atKey, List.find?_cons, e']
      rw [valV_pos e, b]; exact h2
    · have e' : ¬ q.1 = k := fun z => e (h1.trans z)
      have b : atKey (q :: qs) k = atKey qs k := by simp [atKey, List.find?_cons, e']
      rw [valV_neg e, b]; exact ih
theorem KT.repl {H : Hp} {kvs : List (List Key × V)} {xs : List (List Key × Addr × Value)} (r : KT H kvs xs) (k : List Key) {y : V} {u : Value} (ry : RelV y u) :
    KT H (kvs.map fun kv => if kv.1 = k then (kv.1, y) else kv) (xs.map (putAt k u)) := by
  induction r with
  | nil => exact .nil
  | @cons p q ps qs h t ih =>
    rw [List.map_cons, List.map_cons]
    refine .cons ?_ ih
    obtain ⟨h1, h2, h3⟩ := h
    unfold putAt
    by_cases e : p.1 = k
    · rw [if_pos e, if_pos (h1.symm.trans e)]; exact ⟨h1, h2, ry⟩
    · rw [if_neg e, if_neg (fun z => e (h1.trans z))]; exact ⟨h1, h2, h3⟩
theorem KT.put {H : Hp} {kvs : List (List Key × V)} {xs : List (List Key × Addr × Value)} (r : KT H kvs xs) (k : List Key) {b : Addr} {y : V} {u : Value} (hb : H b = some (.tup (k.map kV))) (ry : RelV y u) :
    KT H (putK kvs k y) (storedH xs k b u) := by
  have e : (kvs.any fun kv => decide (kv.1 = k)) = (atKey xs k).isSome := by
    rw [valV_any, (r.val k).isSome_eq, Option.isSome_map]
  unfold putK storedH
  rw [e]
  by_cases q : (atKey xs k).isSome = true
  · rw [if_pos q, if_pos q]; exact r.repl k ry
  · rw [if_neg q, if_neg q]; exact Paired.snoc r ⟨rfl, hb, ry⟩
theorem KT.keeps {H H' : Hp} {kvs : List (List Key × V)} {xs : List (List Key × Addr × Value)} (r : KT H kvs xs) (ht : ∀ b ys, H b = some (.tup ys) → H' b = some (.tup ys)) : KT H' kvs xs :=
  Paired.mapP r fun _ _ z => ⟨z.1, ht _ _ z.2.1, z.2.2⟩

section
variable {P : Program} {w : World} {H : Hp} {h : Heap} {a : Addr}
theorem rd_of {u : HO} (ok : HOk P w H h) (e : Rd H a u) : ObjOk P w H h a u := e.ok ok
theorem dk_rd {kvs : List (Key × V)} (ok : HOk P w H h) (e : Rd H a (.dK kvs)) : kvs.length ≤ sizeLine ∧ (a == sysModules) = false ∧ ∃ vs, KV kvs vs ∧ h.DictOf (mixKind P w) a vs :=
  show ObjOk P w H h a (.dK kvs) from rd_of ok e
theorem dk_of {kvs : List (Key × V)} (ok : HOk P w H h) (e : H a = some (.dK kvs)) : kvs.length ≤ sizeLine ∧ (a == sysModules) = false ∧ ∃ vs, KV kvs vs ∧ h.DictOf (mixKind P w) a vs := dk_rd ok (.inl e)
/-- a tracked tuple of ints and texts is a key -/
theorem key_of {ks : List Key} (ok : HOk P w H h) (e : H a = some (.tup (ks.map kV))) : (tupleKind (mixKind P w)).is h ks a := by
  obtain ⟨_, its, r, o, h1, h2, n, h3⟩ := (show ObjOk P w H h a (.tup (ks.map kV)) from ok a _ e)
  exact ⟨o, its.toArray, n, h1, h2, h3, by simpa using items_are r⟩
theorem dt_rd {kvs : List (List Key × V)} (ok : HOk P w H h) (e : Rd H a (.dT kvs)) : kvs.length ≤ sizeLine ∧ (a == sysModules) = false ∧
    ∃ xs, KT H kvs xs ∧ h.DictOfH (tupleKind (mixKind P w)) a xs := by
  obtain ⟨z, y, xs, r, o, es, ep, h1, h2, h3, h4, h5⟩ := (show ObjOk P w H h a (.dT kvs) from rd_of ok e)
  refine ⟨z, y, xs, r, o, es, ep, h1, h2, h3, h4, fun x hx => ?_, h5⟩
  have all : ∀ {l : List (List Key × V)} {m : List (List Key × Addr × Value)}, KT H l m → ∀ x ∈ m, (tupleKind (mixKind P w)).is h x.1 x.2.1 := by
    intro l m q
    induction q with
    | nil => intro x hx; exact nomatch hx
    | @cons p q ps qs hq t ih =>
      intro x hx
      rcases List.mem_cons.mp hx with e | hx
      · subst e
        exact key_of ok (by rw [← hq.1]; exact hq.2.1)
      · exact ih x hx
  exact all r x hx
theorem dt_of {kvs : List (List Key × V)} (ok : HOk P w H h) (e : H a = some (.dT kvs)) : kvs.length ≤ sizeLine ∧ (a == sysModules) = false ∧
    ∃ xs, KT H kvs xs ∧ h.DictOfH (tupleKind (mixKind P w)) a xs := dt_rd ok (.inl e)
end

/-- what the dict at a holds at the key y -/
def DGet (H : Hp) (a : Addr) (y : V) (r : Option V) : Prop :=
  (∃ kvs k, Rd H a (.dK kvs) ∧ y = kV k ∧ r = valV kvs k) ∨ ∃ kvs k b, Rd H a (.dT kvs) ∧ y = .ref b ∧ H b = some (.tup (k.map kV)) ∧ r = valV kvs k
/-- the heap behind a[y] = v -/
def DPut (H : Hp) (a : Addr) (y v : V) (H' : Hp) : Prop :=
  (∃ kvs k, H a = some (.dK kvs) ∧ y = kV k ∧ kvs.length < sizeLine ∧ H' = upd H a (.dK (putK kvs k v))) ∨
  ∃ kvs k b, H a = some (.dT kvs) ∧ y = .ref b ∧ H b = some (.tup (k.map kV)) ∧ kvs.length < sizeLine ∧ H' = upd H a (.dT (putK kvs k v))
theorem DGet.k {H : Hp} {a : Addr} {kvs : List (Key × V)} {k : Key} (e : H a = some (.dK kvs)) : DGet H a (kV k) (valV kvs k) := .inl ⟨kvs, k, .inl e, rfl, rfl⟩
theorem DPut.k {H : Hp} {a : Addr} {kvs : List (Key × V)} {k : Key} {v : V} (e : H a = some (.dK kvs)) (hl : kvs.length < sizeLine) : DPut H a (kV k) v (upd H a (.dK (putK kvs k v))) := .inl ⟨kvs, k, e, rfl, hl, rfl⟩
section
variable {X : Cx} {pins : List (Addr × Obj)} {σ : St} {H : Hp} {s : Shared} {a : Addr} {y v : V} {u r : Value} {o : Option V} {A : Around} {E : Value → Shared → Prop}

theorem Inv.big (I : Inv X pins σ H s) : sysModules < s.heap.objs.size := by
  have h : mainGlobals < s.heap.objs.size := (I.mod.glob.keeps I.bk).lt
  exact Nat.lt_trans (by decide) h

/-- d[y], there -/
theorem d_getItem {Q : Value → Shared → Prop} (hu : A.units + 1 < cLine) (I : Inv X pins σ H s) (g : DGet H a y (some v)) (ry : RelV y u) (h : ∀ w' s', Inv X pins σ H s' → RelV v w' → Q w' s') :
    wpAny (model X.prog X.w) A (getItem (.ref a) u) Q E s := by
  rcases g with ⟨kvs, k, e, ey, l⟩ | ⟨kvs, k, b, e, ey, eb, l⟩
  · subst ey
    obtain ⟨z, hd, vs, rel, dd⟩ := dk_rd I.hok e
    obtain ⟨w', hw, rw'⟩ := RelO.some_of (v := v) (o := valueAt vs k) (by rw [l]; exact rel.val k)
    exact wpAny_getItem_of (kV_is ry) dd.mapOf hw (h w' _ (I.tok _) rw')
  · subst ey
    cases (show u = Value.ref b from ry)
    obtain ⟨z, hd, xs, rel, dd⟩ := dt_rd I.hok e
    obtain ⟨w', hw, rw'⟩ := RelO.some_of (v := v) (o := (atKey xs k).map (·.2)) (by rw [l]; exact rel.val k)
    obtain ⟨p, hp, hp2⟩ := Option.map_eq_some_iff.mp hw
    refine wpAny_getItem_heap (tupleKind_room_in1 hu) (key_of I.hok eb) dd hp ?_
    rw [hp2]
    exact h w' _ (I.tok _) rw'
/-- a dict's object is replaced -/
theorem d_write {h' : Heap} {t' : Nat} {ob : HO} (I : Inv X pins σ H s) (mu : Mut (H a)) (hs : Heap.SameBut a s.heap h') (he : ∃ q, h'.get? a = some q) (new : ObjOk X.prog X.w (upd H a ob) h' a ob) :
    Inv X pins σ (upd H a ob) { s with heap := h', toks := t' } :=
  I.write (x := a) (e := a) mu (.inl rfl) (fun b q hb z => (hs.2 b hb).trans z) he new
theorem dk_new {P : Program} {w : World} {H' : Hp} {h' : Heap} {kvs : List (Key × V)} {vs : List (Key × Value)} (z : kvs.length ≤ sizeLine) (hd : (a == sysModules) = false) (rel : KV kvs vs) (dd : h'.DictOf (mixKind P w) a vs) :
    ObjOk P w H' h' a (.dK kvs) := ⟨z, hd, vs, rel, dd⟩
/-- d[y] = v -/
theorem d_setItem {H' : Hp} {Q : Unit → Shared → Prop} (hu : A.units + 1 < cLine) (I : Inv X pins σ H s) (g : DPut H a y v H') (ry : RelV y u) (rv : RelV v r) (h : ∀ s', Inv X pins σ H' s' → Q () s') :
    wpAny (model X.prog X.w) A (setItem (.ref a) u r) Q E s := by
  rcases g with ⟨kvs, k, e, ey, l, eH⟩ | ⟨kvs, k, b, e, ey, eb, l, eH⟩
  · subst ey eH
    obtain ⟨z, hd, vs, rel, dd⟩ := dk_of I.hok e
    have hz : vs.length ≤ sizeLine := by rw [← rel.length]; exact z
    have hl : (putK kvs k v).length ≤ sizeLine := by have := length_putK kvs k v; omega
    refine wpAny_setItem_pairs (hsz := hz) (kV_is ry) dd fun h' dd' hs => h _ ?_
    have he : ∃ q, h'.get? a = some q := let ⟨q, _, _, hq, _⟩ := dd'; ⟨q, hq⟩
    exact d_write I (by rw [e]; exact True.intro) hs he (dk_new hl hd (rel.put k rv) dd')
  · subst ey eH
    cases (show u = Value.ref b from ry)
    obtain ⟨z, hd, xs, rel, dd⟩ := dt_of I.hok e
    have hz : xs.length ≤ sizeLine := by rw [← Paired.length rel]; exact z
    have hl : (putK kvs k v).length ≤ sizeLine := by have := length_putK kvs k v; omega
    refine wpAny_setItem_heap (hsz := hz) (tupleKind_room_in1 hu) (key_of I.hok eb) dd fun h' dd' hs => h _ ?_
    obtain ⟨q, es, ep, hq, h2, h3, h4, _, h5⟩ := dd'
    refine d_write I (by rw [e]; exact True.intro) hs ⟨q, hq⟩ ⟨hl, hd, _, (rel.put k eb rv).keeps fun c ys ec => ?_, q, es, ep, hq, h2, h3, h4, h5⟩
    rw [upd_ne (ne_of ec e (fun z => nomatch z))]
    exact ec
end

section
variable {X : Cx} {pins : List (Addr × Obj)} {σ : St} {H : Hp} {s : Shared} {a : Addr} {kvs : List (Key × V)} {k : Key} {u : Value} {A : Around} {E : Value → Shared → Prop}
end


/-! ### readings and rules -/
/-- the element of a subscription, not a slice -/
def NoSl (i : Expr) : Prop := ∀ ov iv, subscripted i false ov iv = operate [ov, iv] (getItem ov iv)
theorem subD_of {prog : Program} {w : World} {A : Around} {E : Value → Shared → Prop} {s : Shared} {env : Env} {value slice : Expr} {pos : Pos} {T id : String} {Q : Value → Shared → Prop}
    (hl : typeLookup (.type T) "__getitem__" = pure (some (.builtin id))) (hs : NoSl slice)
    (h : wpAny (model prog w) A (eval value env) (fun o s₁ => wpAny (model prog w) A (eval slice env) (fun i s₂ => s₂.TypeIs o T ∧ wpAny (model prog w) A (getItem o i) Q E s₂) E s₁) E s) :
    wpAny (model prog w) A (eval (.Subscript value slice pos) env) Q E s := by
  refine Subscript_ (wpAny_mono h (fun o s₁ h₁ => wpAny_mono h₁ (fun i s₂ h₂ => ?_) fun _ _ x => x) fun _ _ x => x)
  obtain ⟨hT, h₂⟩ := h₂
  unfold subscriptTail
  refine wpAny_bind ?_
  rw [getitemInPython_of_ne hT.not_modules]
  refine wpAny_bind (wpAny_specialOf hT hl ?_)
  have fin : wpAny (model prog w) A (subscripted slice false o i) (fun r s₃ => wpAny (model prog w) A (letTemporaryGo value o r >>= fun _ => pure r) Q E s₃) E s₂ := by
    rw [hs o i]
    exact wpAny_operating (wpAny_mono h₂ (fun r s₃ h₃ => wpAny_bind (wpAny_letTemporaryGo (wpAny_pure h₃))) fun _ _ x => x)
  first
    | exact wpAny_pure (wpAny_bind fin)
    | exact wpAny_bind (wpAny_pure (wpAny_bind fin))
    | exact wpAny_bind fin

theorem dict_typeIs {X : Cx} {pins : List (Addr × Obj)} {σ : St} {H : Hp} {s : Shared} {a : Addr} {y : V} {o : Option V} (I : Inv X pins σ H s) (g : DGet H a y o) : s.TypeIs (.ref a) "dict" := by
  rcases g with ⟨kvs, k, e, _, _⟩ | ⟨kvs, k, b, e, _, _, _⟩
  · obtain ⟨_, _, vs, _, dd⟩ := dk_rd I.hok e
    exact dd.typeIs
  · obtain ⟨_, _, xs, _, dd⟩ := dt_rd I.hok e
    exact dd.typeIs
/-- d[y] -/
def tDGet (td ty : TE) : TE := fun σ H Q => td σ H fun x H1 => ty σ H1 fun y H2 => ∃ a v, x = .ref a ∧ DGet H2 a y (some v) ∧ Q v H2
/-- y in d, y not in d -/
def tDIn (ty td : TE) : TE := fun σ H Q => ty σ H fun y H1 => td σ H1 fun x H2 => ∃ a o, x = .ref a ∧ DGet H2 a y o ∧ Q (.bl o.isSome) H2
def tDNotIn (ty td : TE) : TE := fun σ H Q => ty σ H fun y H1 => td σ H1 fun x H2 => ∃ a o, x = .ref a ∧ DGet H2 a y o ∧ Q (.bl (!o.isSome)) H2
/-- d[y] = v -/
def sDPut (td ty tv : TE) : TS := fun D σ H => tv σ H fun v H1 => td σ H1 fun x H2 => ty σ H2 fun y H3 => ∃ a H4, x = .ref a ∧ DPut H3 a y v H4 ∧ D.nx σ H4
/-- d[y] op= v -/
def sDAug (td ty tv : TE) (rd : V → V → Hp → VK → Prop) : TS := fun D σ H => td σ H fun x H1 => ty σ H1 fun y H2 => ∃ a v, x = .ref a ∧ DGet H2 a y (some v) ∧
  tv σ H2 fun y2 H3 => rd v y2 H3 fun z H4 => ∃ H5, DPut H4 a y z H5 ∧ D.nx σ H5
/-- del d[y] -/
def sDDel (td ty : TE) : TS := fun D σ H => td σ H fun x H1 => ty σ H1 fun y H2 => ∃ a kvs k, x = .ref a ∧ H2 a = some (.dK kvs) ∧ y = kV k ∧ (valV kvs k).isSome = true ∧ D.nx σ (upd H2 a (.dK (dropK kvs k)))

section
variable {X : Cx} {o i e value : Expr} {pos pos' tpos : Pos} {td ty tv : TE}
theorem pe_dget (hu : X.A.units + 1 < cLine) (ho : PE X o td) (hi : PE X i ty) (hs : NoSl i) : PE X (.Subscript o i pos) (tDGet td ty) := by
  intro pins s σ H Q I h
  refine subD_of PySem.F.slot_dict_getitem.lookup hs (thn (ho pins s σ H _ I h) fun u s1 ⟨x, H1, I1, rx, q1⟩ => thn (hi pins s1 σ H1 _ I1 q1) fun iv s2 ⟨y, H2, I2, ry, a, v, ex, g, q2⟩ => ?_)
  subst ex
  obtain rfl : u = Value.ref a := rx
  exact ⟨dict_typeIs I2 g, d_getItem hu I2 g ry fun w' s3 I3 rw' => ⟨v, H2, I3, rw', q2⟩⟩
theorem ps_dput (hu : X.A.units + 1 < cLine) (ho : PE X o td) (hi : PE X i ty) (hv : PE X value tv) (hs : swapsWith value (some (.Subscript o i pos')) pos.line X.env = pure false) :
    PS X (.Assign [.Subscript o i pos'] value pos) (sDPut td ty tv) := by
  intro pins s σ H D I h
  refine wpAny_Assign_Subscript (thn (hv pins s σ H _ I h) fun r s1 ⟨v, H1, I1, rv, q1⟩ => thn (ho pins s1 σ H1 _ I1 q1) fun u s2 ⟨x, H2, I2, rx, q2⟩ => thn (hi pins s2 σ H2 _ I2 q2) fun iv s3 ⟨y, H3, I3, ry, a, H4, ex, g, q3⟩ => ?_) hs
  subst ex
  obtain rfl : u = Value.ref a := rx
  exact d_setItem hu I3 g ry rv fun s4 I4 => ⟨σ, H4, I4, q3⟩
end


/-! ### displays -/
theorem dk_empty {P : Program} {w : World} {H : Hp} (h : Heap) (hb : sysModules < h.objs.size) : ObjOk P w H (h.push { cls := .type "dict", data := .dict #[] }) h.objs.size (.dK []) :=
  ⟨Nat.zero_le _, beq_eq_false_iff_ne.mpr (Ne.symm (Nat.ne_of_lt hb)), [], .nil, Heap.DictOf.new h⟩
/-- {}, to be a dict of the kind that is wanted -/
def tDNewK : TE := fun _ H Q => ∀ p, H p = none → Q (.ref p) (upd H p (.dK []))
def tDNewT : TE := fun _ H Q => ∀ p, H p = none → Q (.ref p) (upd H p (.dT []))
section
variable {X : Cx} {pos : Pos}
end

/-- the pairs of a display, from the left -/
def tPairs : List (TE × TE) → St → Hp → (List (V × V) → Hp → Prop) → Prop
  | [], _, H, Q => Q [] H
  | (tk, tv) :: r, σ, H, Q => tk σ H fun x H1 => tv σ H1 fun y H2 => tPairs r σ H2 fun ps H3 => Q ((x, y) :: ps) H3
abbrev VV : List (V × V) → List (Value × Value) → Prop := Paired fun p q => RelV p.1 q.1 ∧ RelV p.2 q.2
def PPs (X : Cx) (pos : Pos) (keys : List (Option Expr)) (values : List Expr) (trs : List (TE × TE)) : Prop :=
  ∀ (pins : List (Addr × Obj)) (s : Shared) (σ : St) (H : Hp) (Q : List (V × V) → Hp → Prop), Inv X pins σ H s → tPairs trs σ H Q →
    wpAny (model X.prog X.w) X.A (evalPairs (pairTrees keys values X.env pos)) (fun vs s' => ∃ ps H', Inv X pins σ H' s' ∧ VV ps vs ∧ Q ps H') X.xe s
theorem pps_nil {X : Cx} {pos : Pos} : PPs X pos [] [] [] := fun pins s σ H Q I h => pairTrees_nil_walk ⟨[], H, I, .nil, h⟩
theorem pps_cons {X : Cx} {pos : Pos} {k v : Expr} {ks : List (Option Expr)} {vs : List Expr} {tk tv : TE} {trs : List (TE × TE)} (hk : PE X k tk) (hv : PE X v tv) (hr : PPs X pos ks vs trs) :
    PPs X pos (some k :: ks) (v :: vs) ((tk, tv) :: trs) := fun pins s σ H Q I h =>
  pairTrees_cons_walk (thn (hk pins s σ H _ I h) fun u s1 ⟨x, H1, I1, rx, q1⟩ => thn (hv pins s1 σ H1 _ I1 q1) fun w2 s2 ⟨y, H2, I2, ry, q2⟩ =>
    thn (hr pins s2 σ H2 _ I2 q2) fun ws s3 ⟨ps, H3, I3, rel, q3⟩ => ⟨(x, y) :: ps, H3, I3, .cons ⟨rx, ry⟩ rel, q3⟩)

def mergeK (kvs more : List (Key × V)) : List (Key × V) := more.foldl (fun acc kv => putK acc kv.1 kv.2) kvs
theorem KV.merge : ∀ {more : List (Key × V)} {rs : List (Key × Value)} {kvs : List (Key × V)} {vs : List (Key × Value)}, KV more rs → KV kvs vs → KV (mergeK kvs more) (merged vs rs) := by
  intro more rs kvs vs r
  unfold KV at r
  induction r generalizing kvs vs with
  | nil => intro q; exact q
  | @cons p q ps qs h t ih =>
    intro r0
    have e : KV (putK kvs p.1 p.2) (stored vs q.1 q.2) := by
      have := r0.put p.1 h.2
      rw [← h.1]; exact this
    exact ih e
theorem length_mergeK : ∀ (more kvs : List (Key × V)), (mergeK kvs more).length ≤ kvs.length + more.length
  | [], kvs => by show kvs.length ≤ kvs.length + 0; omega
  | p :: r, kvs => by
    have h1 := length_mergeK r (putK kvs p.1 p.2)
    have h2 := length_putK kvs p.1 p.2
    show (mergeK (putK kvs p.1 p.2) r).length ≤ _
    rw [List.length_cons]; omega
theorem carries_of {P : Program} {w : World} : ∀ {kvs : List (Key × V)} {ws : List (Value × Value)}, VV (kvs.map fun kv => (kV kv.1, kv.2)) ws → ∃ rs, Carries (mixKind P w) ws rs ∧ KV kvs rs
  | [], _, r => by rw [List.map_nil] at r; cases r; exact ⟨[], True.intro, .nil⟩
  | p :: kvs, _, r => by
    rw [List.map_cons] at r
    cases r with
    | @cons a b as bs h t =>
      obtain ⟨rs, c, q⟩ := carries_of (P := P) (w := w) t
      obtain ⟨b1, b2⟩ := b
      exact ⟨(p.1, b2) :: rs, ⟨kV_is h.1, rfl, c⟩, .cons ⟨rfl, h.2⟩ q⟩
/-- {k: v, ..} with keys ints and texts; the new dict stands empty while the pairs are made -/
def tDisp (trs : List (TE × TE)) : TE := fun σ H Q => ∀ p, H p = none → tPairs trs σ (upd H p (.dK [])) fun ps H2 => H2 p = some (.dK []) ∧ ∃ kvs : List (Key × V), ps = kvs.map (fun kv => (kV kv.1, kv.2)) ∧ kvs.length ≤ 15 ∧ Q (.ref p) (upd H2 p (.dK (mergeK [] kvs)))
/-! ### methods -/
/-- a method call o.m(e) of a built-in, with one argument: what must be seen of the text -/
structure M1 (X : Cx) (o : Expr) (m : Str) (apos : Pos) (e : Expr) (cpos : Pos) : Prop where
  base : attributeBase o m X.env (eval o X.env) = eval o X.env
  few : ((backTo cpos (starEach [e] X.env)).all (fun x => !x.1) && (backToKw cpos (keywordEach [] X.env)).all (fun x => x.1.isSome)
    && decide (([e] : List Expr).length + ([] : List Keyword).length + (if ([] : List Keyword).isEmpty then 0 else 1) < 30)) = true
  line : (apos.endLine == cpos.line) = true
  trees : backTo cpos (starEach [e] X.env) = [(false, eval e X.env)]
structure M2 (X : Cx) (o : Expr) (m : Str) (apos : Pos) (e f : Expr) (cpos : Pos) : Prop where
  base : attributeBase o m X.env (eval o X.env) = eval o X.env
  few : ((backTo cpos (starEach [e, f] X.env)).all (fun x => !x.1) && (backToKw cpos (keywordEach [] X.env)).all (fun x => x.1.isSome)
    && decide (([e, f] : List Expr).length + ([] : List Keyword).length + (if ([] : List Keyword).isEmpty then 0 else 1) < 30)) = true
  line : (apos.endLine == cpos.line) = true
  trees : backTo cpos (starEach [e, f] X.env) = [(false, eval e X.env), (false, eval f X.env)]

/-- a is a dict, whatever its keys -/
def IsD (H : Hp) (a : Addr) : Prop := (∃ kvs, Rd H a (.dK kvs)) ∨ ∃ kvs, Rd H a (.dT kvs)
section
variable {X : Cx} {pins : List (Addr × Obj)} {σ : St} {H : Hp} {s : Shared} {a : Addr} {y d : V} {u r : Value} {o : Option V} {A : Around} {E : Value → Shared → Prop}
end

def tDGet1 (td ty : TE) : TE := fun σ H Q => td σ H fun x H1 => ∃ a, x = .ref a ∧ IsD H1 a ∧ ty σ H1 fun y H2 => ∃ o, DGet H2 a y o ∧ Q (o.getD .non) H2
def tDGet2 (td ty tx : TE) : TE := fun σ H Q => td σ H fun x H1 => ∃ a, x = .ref a ∧ IsD H1 a ∧ ty σ H1 fun y H2 => tx σ H2 fun z H3 => ∃ o, DGet H3 a y o ∧ Q (o.getD z) H3
/-- d.pop(k): there; d.pop(k, x): there or not -/
def tDPop1 (td ty : TE) : TE := fun σ H Q => td σ H fun x H1 => ∃ a, x = .ref a ∧ IsD H1 a ∧ ty σ H1 fun y H2 => ∃ kvs k v, H2 a = some (.dK kvs) ∧ y = kV k ∧ valV kvs k = some v ∧ Q v (upd H2 a (.dK (dropK kvs k)))
def tDPop2 (td ty tx : TE) : TE := fun σ H Q => td σ H fun x H1 => ∃ a, x = .ref a ∧ IsD H1 a ∧ ty σ H1 fun y H2 => tx σ H2 fun z H3 => ∃ kvs k, H3 a = some (.dK kvs) ∧ y = kV k ∧
  (∀ v, valV kvs k = some v → Q v (upd H3 a (.dK (dropK kvs k)))) ∧ (valV kvs k = none → Q z H3)
section
variable {X : Cx} {o e f : Expr} {apos cpos : Pos} {td ty tx : TE}
end

/-! ### dict(d): a copy -/
section
variable {X : Cx} {pins : List (Addr × Obj)} {σ : St} {H : Hp} {s : Shared} {a : Addr} {kvs : List (Key × V)} {A : Around} {E : Value → Shared → Prop}
end


section
variable {X : Cx} {pins : List (Addr × Obj)} {σ : St} {H : Hp} {s : Shared} {a : Addr} {y : V} {u : Value} {A : Around} {E : Value → Shared → Prop}
end
end L2

namespace L2
open PySem PySem.Spec PyProof.Rows

section
variable {prog : Program} {w : World} {A : Around} {E : Value → Shared → Prop}
end

section
variable {X : Cx}
end
end L2

namespace L2
open PySem PySem.Spec PyProof.Rows

section
variable {X : Cx} {pins : List (Addr × Obj)} {σ : St} {H : Hp} {s : Shared} {h' : Heap}
/-- .. and one new object is laid -/
theorem Inv.turnedNew {t' : Nat} {ch : List Addr} {T : Addr} {ob : HO} (I : Inv X pins σ H s) (k : ∀ b o, b ∉ ch → s.heap.get? b = some o → h'.get? b = some o) (hf : ∀ b ∈ ch, FpOk X pins H b) (hT : s.heap.objs.size ≤ T)
    (new : ObjOk X.prog X.w (upd H T ob) h' T ob) : Inv X pins σ (upd H T ob) { s with heap := h', toks := t' } := by
  have hn : H T = none := I.hok.fresh hT
  have nit : ∀ b u, H b = some u → b ∉ ch := fun b u e z => by
    have q := (hf b z).1
    rw [q] at e; cases e
  refine I.step (g' := s.gens) (d' := s.drawn) (ch := ch) (fun b hb => ⟨(hf b hb).2.2.2.1, (hf b hb).2.1, (hf b hb).2.2.2.2.1, (hf b hb).2.2.2.2.2⟩) (fun b o _ _ hc e _ => k b o hc e) (fun b o _ _ hc e _ => ⟨o.slots, k b o hc e⟩)
    (fun b o _ e n => ?_) (fun b o hc e => ⟨o, k b o hc e⟩) (fun b xs e => ?_) (fun b o u e => ?_) (fun b ps e => ⟨#[], ?_⟩) (fun m hm => ?_) (fun b u e => ?_) I.bare
  · rw [upd_ne (Nat.ne_of_lt (Nat.lt_of_lt_of_le (Heap.lt_size e) hT))]; exact n
  · rw [upd_ne (ne_of_none e hn)]; exact e
  · rw [upd_ne (ne_of_none e hn)]; exact e
  · rw [upd_ne (ne_of_none e hn), e]; simp
  · obtain ⟨o, es, ep, ho, r⟩ := hm
    exact ⟨o, es, ep, k _ o (fun z => (hf _ z).2.1 rfl) ho, r⟩
  · by_cases hb : b = T
    · subst hb
      rw [upd_same] at e
      cases e
      exact new
    · rw [upd_ne hb] at e
      refine (I.hok b u e).stay (fun c v hc q => k c v ?_ q) (fun c q => by rw [upd_ne (ne_of_none q hn)]; exact q) fun c xs q => by rw [upd_ne (ne_of_none q hn)]; exact q
      rcases hc with z | z
      · rw [z]; exact nit b u e
      · exact nit c _ z

/-! ### locking a thing while a statement runs -/
end
/-- the statement runs while the thing at d is locked (read, not written); d and what stands there are the reading's choice -/
def tLock (t : TS) : TS := fun D σ H => ∃ d u, H d = some u ∧ Mut (some u) ∧ ∀ od, t ⟨fun σ' H' => H' d = some (.frz od u) ∧ D.nx σ' (upd H' d u), fun v H' => H' d = some (.frz od u) ∧ D.rt v (upd H' d u), fun σ' H' => H' d = some (.frz od u) ∧ D.bk σ' (upd H' d u), fun σ' H' => H' d = some (.frz od u) ∧ D.ct σ' (upd H' d u)⟩ σ (upd H d (.frz od u))
def tLockE (t : TE) : TE := fun σ H Q => ∃ d u, H d = some u ∧ Mut (some u) ∧ ∀ od, t σ (upd H d (.frz od u)) fun v H' => H' d = some (.frz od u) ∧ Q v (upd H' d u)
section
variable {X : Cx}
/-! ### one iterator just laid -/
end

/-! ### range with a step -/
/-- lo, lo + c, .. (n of them) -/
def Itc (lo c : Int) (n : Nat) : It := ⟨fun i _ => i < n, fun i H x H' => H' = H ∧ x = .int (lo + (i : Nat) * c), fun i _ => n ≤ i⟩
/-- range(i, j, c): small bounds, n items -/
def RgC (i j c : Int) (n : Nat) : Prop := c ≠ 0 ∧ c.natAbs < 1073741824 ∧ Builtin.Range.small i j c = true ∧ Builtin.Range.rangeSize i j c = n
def iRng3 (ta : TA) : TI := fun σ H R => ta σ H fun vs H1 => ∃ (i j c : Int) (n : Nat), vs = [.int i, .int j, .int c] ∧ RgC i j c n ∧ R (Itc i c n) H1
section
variable {X : Cx} {tg : Expr}
end
/-! ### reversed(list) -/
/-- the list at a (n items at the start, which the loop leaves there), from its end -/
def Itv (K : PySem.W.Frag) (a : Addr) (n : Nat) : It :=
  ⟨fun i H => i < n ∧ ∃ (xs : List V) (x : V), SqL K H a xs ∧ xs[n - 1 - i]? = some x, fun i H x H' => H' = H ∧ ∀ xs, SqL K H a xs → xs[n - 1 - i]? = some x, fun i _ => n ≤ i⟩
def iRev (K : PySem.W.Frag) (ta : TA) : TI := fun σ H R => ta σ H fun vs H1 => ∃ (a : Addr) (xs : List V), vs = [.ref a] ∧ SqL K H1 a xs ∧ R (Itv K a xs.length) H1
section
variable {X : Cx} {tg : Expr}
end

/-! ### a str -/
def Its (x : Str) : It := ⟨fun i _ => i < x.cps.size, fun i H v H' => H' = H ∧ ∃ c, x.cps[i]? = some c ∧ v = .str ⟨#[c]⟩, fun i _ => x.cps.size ≤ i⟩
def iStr (te : TE) : TI := fun σ H R => te σ H fun v H1 => ∃ x, v = .str x ∧ R (Its x) H1
/-! ### a dict's keys: any dict's entries -/
section
variable {prog : Program} {w : World} {A : Around} {E : Value → Shared → Prop} {s : Shared}
end

/-! ### a locked dict -/
section
variable {X : Cx} {pins : List (Addr × Obj)} {σ : St} {H : Hp} {s : Shared} {d : Addr} {o : Obj}
end

/-- the keys of the locked dict at d, in their order -/
def Itk (d : Addr) (o : Obj) (kvs : List (Key × V)) : It :=
  ⟨fun i H => H d = some (.frz o (.dK kvs)) ∧ i < kvs.length, fun i H x H' => H' = H ∧ ∃ k v, kvs[i]? = some (k, v) ∧ x = kV k, fun i H => H d = some (.frz o (.dK kvs)) ∧ kvs.length ≤ i⟩
/-- .. of tuple keys: the key's own tuple -/
def Itkt (d : Addr) (o : Obj) (kvs : List (List Key × V)) : It :=
  ⟨fun i H => H d = some (.frz o (.dT kvs)) ∧ i < kvs.length, fun i H x H' => H' = H ∧ ∃ (k : List Key) (v : V) (q : Addr), kvs[i]? = some (k, v) ∧ x = .ref q ∧ H q = some (.tup (k.map kV)), fun i H => H d = some (.frz o (.dT kvs)) ∧ kvs.length ≤ i⟩
/-- the values -/
def Itd (d : Addr) (o : Obj) (kvs : List (Key × V)) : It :=
  ⟨fun i H => H d = some (.frz o (.dK kvs)) ∧ i < kvs.length, fun i H x H' => H' = H ∧ ∃ k, kvs[i]? = some (k, x), fun i H => H d = some (.frz o (.dK kvs)) ∧ kvs.length ≤ i⟩
/-- the pairs, each a new tuple -/
def Iti (d : Addr) (o : Obj) (kvs : List (Key × V)) : It :=
  ⟨fun i H => H d = some (.frz o (.dK kvs)) ∧ i < kvs.length, fun i H x H' => ∃ T k v, kvs[i]? = some (k, v) ∧ x = .ref T ∧ H T = none ∧ H' = upd H T (.tup [kV k, v]), fun i H => H d = some (.frz o (.dK kvs)) ∧ kvs.length ≤ i⟩
section
variable {P : Program} {w : World} {K : PySem.W.Frag} {tg : Expr} {d : Addr} {o : Obj} {es : Array DictEntry} {ep : Nat}
end

/-! ### for k in d, d.keys(), d.values(), d.items() -/
/-- the dict is locked (tLock, or by the caller) -/
def iKeys (td : TE) : TI := fun σ H R => td σ H fun x H1 => ∃ d o, x = .ref d ∧ ((∃ kvs, H1 d = some (.frz o (.dK kvs)) ∧ R (Itk d o kvs) H1) ∨ ∃ kvs, H1 d = some (.frz o (.dT kvs)) ∧ R (Itkt d o kvs) H1)
def iVals (td : TE) : TI := fun σ H R => td σ H fun x H1 => ∃ d o kvs, x = .ref d ∧ H1 d = some (.frz o (.dK kvs)) ∧ R (Itd d o kvs) H1
def iItems (td : TE) : TI := fun σ H R => td σ H fun x H1 => ∃ d o kvs, x = .ref d ∧ H1 d = some (.frz o (.dK kvs)) ∧ R (Iti d o kvs) H1
def iKeysM (td : TE) : TI := fun σ H R => td σ H fun x H1 => ∃ d o kvs, x = .ref d ∧ H1 d = some (.frz o (.dK kvs)) ∧ R (Itk d o kvs) H1
section
variable {X : Cx} {tg e : Expr} {td : TE} {apos cpos : Pos}
end

/-! ### enumerate(list) -/
/-- the list at a as it stands at each turn, each item in a new pair -/
def Ite (K : PySem.W.Frag) (a : Addr) : It :=
  ⟨fun i H => ∃ (xs : List V) (x : V), SqL K H a xs ∧ xs[i]? = some x, fun i H v H' => ∃ T x, v = .ref T ∧ H T = none ∧ H' = upd H T (.tup [.int (i : Nat), x]) ∧ ∀ xs, SqL K H a xs → xs[i]? = some x, fun i H => ∃ xs : List V, SqL K H a xs ∧ xs.length ≤ i⟩
theorem turn_enum {P : Program} {w : World} {K : PySem.W.Frag} {elts : List Expr} {kk : Nat} {tpos : Pos} (a e it : Addr) :
    Turn P w K (.Tuple elts kk tpos) (Ite K a) [e, it] e (fun i h => (∃ old, IsEnum h e it ((i : Nat) : Int) old) ∧ h.IsListIter it a i ∧ e ≠ it) where
  mem := by simp
  obj := fun i h st b hb => by
    obtain ⟨⟨old, he⟩, ⟨o, ho, hc, hd⟩, _⟩ := st
    have e' : b = e ∨ b = it := by simpa using hb
    rcases e' with z | z
    · rw [z]; exact ⟨_, he, fun v q => nomatch q⟩
    · rw [z]; exact ⟨o, ho, fun v q => by rw [hd] at q; cases q⟩
  keep := fun i h h' st k => let ⟨⟨old, he⟩, hi, hne⟩ := st; ⟨⟨old, k e (by simp) _ he⟩, hi.at fun o q => k it (by simp) o q, hne⟩
  item := by
    intro X hP hw hK hc i pins s σ H E I hf st hg
    subst hP hw hK
    obtain ⟨⟨old, he⟩, hit, hne⟩ := st
    obtain ⟨xs, x, hq, hx⟩ := hg
    obtain ⟨its, rv, p, hz⟩ := I.list hq
    obtain ⟨u, hu, ru⟩ := rv.get hx
    have hel : e < s.heap.objs.size := Heap.lt_size he
    have hil : it < s.heap.objs.size := by obtain ⟨_, q, _⟩ := hit; exact Heap.lt_size q
    refine wpAny_pyNext_enum_item he hit p.isList (x := u) (by simpa using hu) hne fun h' ho hit' hT hsz hk => ?_
    refine ⟨_, rfl, wpAny_letOwnedTupleGo_enum (s := { s with heap := h', toks := s.toks + 1 }) ho fun h'' he' sb => ?_⟩
    have hT2 : h''.get? s.heap.objs.size = some { cls := .type "tuple", data := .seq #[.int i s.toks, u] } := (sb.2 _ (Nat.ne_of_gt hel)).trans hT
    have new : ObjOk X.prog X.w (upd H s.heap.objs.size (.tup [.int (i : Nat), x])) h'' s.heap.objs.size (.tup [.int (i : Nat), x]) :=
      ⟨by show 2 ≤ sizeLine; decide, [.int i s.toks, u], .cons ⟨_, rfl⟩ (.cons ru .nil), ⟨_, hT2, rfl, _, rfl⟩⟩
    have I1 : Inv X pins σ (upd H s.heap.objs.size (.tup [.int (i : Nat), x])) { s with heap := h'', toks := s.toks + 1 } :=
      I.turnedNew (ch := [e, it]) (fun b ob hb q => (sb.2 b (fun z => hb (by simp [z]))).trans (hk b ob (fun z => hb (by simp [z])) (fun z => hb (by simp [z])) q)) hf (Nat.le_refl _) new
    refine ⟨.ref s.heap.objs.size, _, I1, rfl, ⟨_, x, rfl, I.hok.fresh (Nat.le_refl _), rfl, fun ys hy => by rw [I.list_inj hy hq]; exact hx⟩, ⟨⟨u, ?_⟩, hit'.at fun o q => (sb.2 it (Ne.symm hne)).trans q, hne⟩, fun b hb => ?_⟩
    · have e1 : ((i + 1 : Nat) : Int) = (i : Int) + 1 := by omega
      rw [e1]; exact he'
    · have hb' : b < s.heap.objs.size := by
        have e' : b = e ∨ b = it := by simpa using hb
        rcases e' with z | z
        · rw [z]; exact hel
        · rw [z]; exact hil
      rw [upd_ne (Nat.ne_of_lt hb')]
      exact (hf b hb).1
  done := by
    intro X hP hw hK hc i pins s σ H E I hf st hg
    subst hP hw hK
    obtain ⟨⟨old, he⟩, hit, hne⟩ := st
    obtain ⟨xs, hq, hx⟩ := hg
    obtain ⟨its, rv, p, hz⟩ := I.list hq
    obtain ⟨f0, f1, f2, f3, f4, f5⟩ := hf it (by simp)
    have hl := rv.length
    exact wpAny_pyNext_enum_end (I.ok.hd hc) he hit p.isList (by simp; omega) fun h' eb => ⟨rfl, I.turned (t' := s.toks) (fun b o hb q => eb b o hb q) f0 f1 f3 f4 f5⟩
  self := fun A i s Q E st h => let ⟨⟨_, he⟩, _⟩ := st; wpAny_pyIter_enum he h
def iEnum (K : PySem.W.Frag) (ta : TA) : TI := fun σ H R => ta σ H fun vs H1 => ∃ a xs, vs = [.ref a] ∧ SqL K H1 a xs ∧ R (Ite K a) H1
theorem pi_enum {X : Cx} {e : Expr} {ta : TA} {p pos tpos : Pos} {elts : List Expr} {kk : Nat} (hg : Gl X "enumerate") (hm : X.mg "enumerate" = none) (ha : PA X [e] ta) (hs : starEach [e] X.env = [(false, eval e X.env)] := by rfl) :
    PI X (.Tuple elts kk tpos) (.Call (.Name "enumerate" p) [e] [] pos) (iEnum X.K ta) := by
  intro pins s σ H R I h
  refine Call_ (ld_blt I hg hm boot_enumerate (PyProof.Rows.callWith_type1 (thn (ha pos pins s σ H _ I h) fun us s1 ⟨vs, H1, I1, r1, q1⟩ => ?_) hs rfl))
  obtain ⟨a, xs, ex, hq, q⟩ := q1
  subst ex
  cases r1 with
  | cons r rr =>
    cases rr
    cases r
    obtain ⟨its, rv, p', hz⟩ := I1.list hq
    refine call_enumerate_list p'.isList fun h' he hit hsz hk => wpAny_pyIter_enum he ?_
    have I2 : Inv X pins σ H1 { s1 with heap := h' } := I1.kept (t' := s1.toks) hk
    refine ⟨s1.heap.objs.size + 1, [s1.heap.objs.size + 1, s1.heap.objs.size], _, _, H1, rfl, I2, turn_enum a (s1.heap.objs.size + 1) s1.heap.objs.size, ⟨⟨.none, he⟩, hit, Nat.succ_ne_self _⟩, fun b hb => ?_, q⟩
    have e' : b = s1.heap.objs.size + 1 ∨ b = s1.heap.objs.size := by simpa using hb
    have hle : s1.heap.objs.size ≤ b := by
      rcases e' with z | z
      · rw [z]; exact Nat.le_add_right _ _
      · rw [z]; exact Nat.le_refl _
    exact I1.fpOk hle (I1.hok.fresh hle)
/-! ### zip(list, list) -/
/-- the lists at a and b as they stand at each turn, the items in new pairs -/
def Itz (K : PySem.W.Frag) (a b : Addr) : It :=
  ⟨fun i H => ∃ (xs ys : List V) (x y : V), SqL K H a xs ∧ SqL K H b ys ∧ xs[i]? = some x ∧ ys[i]? = some y,
    fun i H v H' => ∃ T x y, v = .ref T ∧ H T = none ∧ H' = upd H T (.tup [x, y]) ∧ (∀ xs, SqL K H a xs → xs[i]? = some x) ∧ ∀ ys, SqL K H b ys → ys[i]? = some y,
    fun i H => ∃ xs ys : List V, SqL K H a xs ∧ SqL K H b ys ∧ (xs.length ≤ i ∨ ys.length ≤ i)⟩
def iZip (K : PySem.W.Frag) (ta : TA) : TI := fun σ H R => ta σ H fun vs H1 => ∃ a b xs ys, vs = [.ref a, .ref b] ∧ SqL K H1 a xs ∧ SqL K H1 b ys ∧ R (Itz K a b) H1
end L2

section 
namespace Bits
open PySem PyProof.Rows

end Bits
end 

section 
namespace TL
open PySem PySem.Builtin PySem.Builtin.Str PySem.StrLaws

abbrev tl (x : Str) : List Nat := x.cps.toList
theorem tl_mk (l : List Nat) : tl ⟨l.toArray⟩ = l := rfl
/-! ### the list functions -/
/-- S stands at the head of l -/
def pre (S l : List Nat) : Bool := l.take S.length == S
/-- l cut at each S from the left; k signs are still to be passed over -/
def spl (S : List Nat) : Nat → List Nat → List Nat → List (List Nat)
  | _, acc, [] => [acc]
  | 0, acc, c :: r => if pre S (c :: r) = true then acc :: spl S (S.length - 1) [] r else spl S 0 (acc ++ [c]) r
  | k + 1, acc, _ :: r => spl S k acc r
/-- what stands before the first S, and behind it -/
def par (S : List Nat) : List Nat → List Nat → Option (List Nat × List Nat)
  | _, [] => none
  | acc, c :: r => if pre S (c :: r) = true then some (acc, (c :: r).drop S.length) else par S (acc ++ [c]) r

/-! ### the model's split and partition are these -/
/-! ### computing spl and par -/
/-- joined lists -/
def joinL (S : List Nat) : List (List Nat) → List Nat
  | [] => []
  | [p] => p
  | p :: q :: r => p ++ (S ++ joinL S (q :: r))
/-! ### digits -/
/-- the signs of a number -/
def numL (n : Nat) : List Nat := (Nat.toDigits 10 n).map Char.toNat
/-! ### words: x.split() -/
def wstep (st : List (List Nat) × List Nat) (c : Nat) : List (List Nat) × List Nat :=
  if Unicode.isSpace c = true then (if st.2 = [] then st else (st.1 ++ [st.2], [])) else (st.1, st.2 ++ [c])
def wfin (st : List (List Nat) × List Nat) : List (List Nat) := if st.2 = [] then st.1 else st.1 ++ [st.2]
end TL
end 

namespace L2
open PySem PySem.Spec PyProof.Rows

/-- a new list of texts, tracked -/
def rNewStrs (ys : List Str) : Hp → VK → Prop := fun H Q => ∀ p, H p = none → Q (.ref p) (upd H p (.lst (ys.map V.str)))

section
variable {X : Cx} {pins : List (Addr × Obj)} {σ : St} {H : Hp} {s : Shared} {Q : VK}
end

section
variable {X : Cx}

/-! ### of a text alone -/
/-! ### of a text and a text -/
end

section
variable {X : Cx} {o e : Expr} {to te : TE}
def tM0 (r : V → List V → Hp → VK → Prop) (to : TE) : TE := fun σ H Q => to σ H fun x H1 => (∃ a, x = .str a) ∧ r x [] H1 Q
def tM1 (r : V → List V → Hp → VK → Prop) (to te : TE) : TE := fun σ H Q => to σ H fun x H1 => (∃ a, x = .str a) ∧ te σ H1 fun y H2 => r x [y] H2 Q
end
end L2

namespace L2
open PySem PySem.Spec PyProof.Rows

section
variable {X : Cx}
end

/-! ### slices of a text -/
/-- a part, clipped, as the text's slice reckons it -/
def clipS (n d : Nat) : Option Int → Int
  | none => (d : Int)
  | some i => max 0 (min (if i < 0 then i + (n : Int) else i) (n : Int))
/-- z[lo:hi] -/
def cutS (z : Str) (lo hi : Option Int) : Str :=
  ⟨((z.cps.toList.drop (HT.sIx z.length 0 lo)).take (HT.sIx z.length z.length hi - HT.sIx z.length 0 lo)).toArray⟩
def rSlS : V → Option Int → Option Int → Hp → VK → Prop := fun x lo hi H Q => ∃ z, x = .str z ∧ z.length ≤ sizeLine ∧ Q (.str (cutS z lo hi)) H
end L2

namespace Att
open PySem PySem.W PySem.Calls PyProof.Rows

/-! ### the script -/
theorem ints_of_wellAll {P : Params} {h : Heap} : ∀ (ns : List Int) (vs : List Value), WellAll P h vs (ns.map WData.int) → IntsAre vs ns := by
  intro ns
  induction ns with
  | nil =>
    intro vs w
    rw [List.map_nil] at w
    cases w
    exact .nil
  | cons n ns ih =>
    intro vs w
    rw [List.map_cons] at w
    cases w with
    | cons a b =>
      cases a
      exact .cons _ _ (ih _ b)

theorem script_of {l : OpenLaw} {n : Nat} (hn : l.most = some n) {P : Params} {h : Heap} {args : List WData} {vals : List Value}
    (hpre : l.row.toRowW.claim.pre args = true) (hwl : WellAll P h vals args) :
    ∃ a vs ns, vals = [Value.ref a] ∧ args = [WData.list (ns.map WData.int)] ∧ h.get? a = some { cls := .type "list", data := .seq vs.toArray } ∧ IntsAre vs ns ∧ ns.length ≤ n := by
  have hsh : WShape.hasAll [] args [.list .int] = true := (pre_splitW hpre).1
  have hc : l.pre.holds [] { args := args } = true := (pre_splitW hpre).2
  obtain ⟨d, r, rfl, h1, h2⟩ := hasAllW_cons hsh
  obtain rfl := hasAllW_nil h2
  obtain ⟨xs, rfl, h3⟩ := hasW_list h1
  obtain ⟨ns, rfl⟩ := items_int h3
  have hlen : ns.length ≤ n := by
    unfold OpenLaw.pre at hc
    have h4 : (WTm.not (.lt (.lit (.int (n : Int))) (.len (.arg 0)))).holds [] { args := [.list (ns.map .int)] } = true := by
      have h4 := (holds_andW hc).1
      rw [hn] at h4
      exact h4
    have h5 := condW_of h4 (w_not (w_lt w_lit (w_len_list (w_arg rfl))))
    rw [List.length_map] at h5
    refine Nat.le_of_not_lt fun q => ?_
    have q' : (n : Int) < ((ns.length : Nat) : Int) := by omega
    first
      | (rw [decide_eq_true q'] at h5; exact absurd h5 (by decide))
      | (simp at h5; omega)
  cases hwl with
  | cons w1 w2 =>
    cases w2
    cases w1 with
    | list ho hall => exact ⟨_, _, ns, rfl, rfl, ho, ints_of_wellAll ns _ hall, hlen⟩

theorem post_true (l : OpenLaw) (args : List WData) : l.row.toRowW.claim.post args (.bool true) args = true :=
  postW_of (r := l.row.toRowW) (X := (true == true))
    (show WShape.has [] (.bool true) .bool = true by first | rfl | decide | simp [WShape.has, WShape.arms, WShape.armsAll])
    (show (WTm.eq .res (.lit (.bool true))).value [] { args := args, res := some (.bool true), after := args } = some (.bool (true == true)) from w_eq_bool (w_res rfl) w_lit) rfl

/-! ### the attachment: holds_open's last premise (the goal 'hc' behind k_head) from a wpAny of the law's body -/
/-- the same from a codeAny of the CALL (for a layer whose function contracts speak of calls) -/
theorem attach_call {l : OpenLaw} {n : Nat} {q : Program} {loose : List Str} {XP : (Str → Option Value) → Heap → Prop} {YP : World → Heap → Prop} {d : DefRec}
    (hn : l.most = some n) (hdf : d.params.defaults = [])
    (call : ∀ (w : World) (s₀ s₁ : Shared) (mg mb : Str → Option Value) (fa : Addr) (o : Obj) (pm cd doc : Value) (a : Addr) (vs : List Value) (ns : List Int),
      Ground q loose [] XP w s₀ mg mb s₁.heap → YP w s₁.heap →
      s₁.heap.get? fa = some o → o.data = .func (docDef d.name d.params d.body d.scope pm cd doc) → s₁.heap.CodeRec cd d.name → mg d.name = some (.ref fa) →
      s₁.heap.get? a = some { cls := .type "list", data := .seq vs.toArray } → IntsAre vs ns → ns.length ≤ n → s₁.gens = #[] →
      codeAny (model l.prog w) callerA (.call (.ref fa) ⟨[.ref a], []⟩) (fun r s' => r = .ok (.ret (.bool true)) ∧ OldK s₁.heap s'.heap ∧ s'.os = s₁.os ∧ AllBare s'.gens) s₁) :
    WalkO q loose XP YP l.row.toRowW d [] (fun f vs => PySem.call f vs) := by
  intro w s₀ s₁ mg mb G Y fa o pm cd doc dV kV ho hd hcd hD hmg hg args vals as hpre hlay hrd hwl hlo
  obtain rfl : dV = .none := Dflts.none hD hdf
  obtain rfl : kV = .none := Dflts.noKw hD
  obtain ⟨a, vs, ns, rfl, rfl, hobj, hints, hlen⟩ := script_of hn hpre hwl
  refine enter_call (codeAny_mono (call w s₀ s₁ mg mb fa o pm cd doc a vs ns G Y ho (fd_plain hd) hcd hmg hobj hints hlen hg) fun r s' hq => ?_)
  obtain ⟨rfl, h2, h3, h4⟩ := hq
  exact ⟨.inl ⟨.bool true, .bool true, [], rfl, fun _ => rfl, .bool true, post_true l _, fun _ => ⟨List.Pairwise.nil, fun _ hm => (nomatch hm)⟩⟩, h2, h3, h4⟩

/-! ### rules over ANY heap (no ledger) from facts about the written part K: the library's own take a ledger (News) for what they write -/
section
variable {prog : Program} {w : World} {A : Around} {E : Value → Shared → Prop} {s : Shared} {K : Frag}

/-! the whole heap as the ledger: makes every rule that writes through a ledger a rule over any heap -/
def noObjs (h : Heap) : Heap := { h with objs := #[] }
def ledger (h : Heap) (L d : Addr) : List (Addr × Obj) := (List.range h.objs.size).filterMap fun a => if a = L ∨ a = d then none else (h.get? a).map fun o => (a, o)
end
end Att

namespace L2
open PySem PySem.Spec PyProof.Rows

theorem vals_ints : ∀ {vs : List Value} {ns : List Int}, IntsAre vs ns → Vals (ns.map V.int) vs
  | _, _, .nil => .nil
  | _, _, .cons n t h => .cons ⟨t, rfl⟩ (vals_ints h)

/-- nothing is tracked but the script, known to the object (or it is an object of the module) -/
def Only (H : Hp) : Prop := ∀ b, H b = none ∨ ∃ o xs, H b = some (.frz o (.lst xs))

/-- THE HEAD: the law's promise, at the heap behind the top. F, the promise of the law's def, may use that base is part of the heap (so K.In base, base.Ns mainGlobals mg stand in Mod) -/
theorem law_call {P : Program} {w : World} {K : PySem.W.Frag} {mg mb : Str → Option Value} {CX : CXT} {k : Nat} {fa a : Addr} {fd : FuncData} {x : Str} {sp : Sp} {s₁ : Shared} {vs : List Value} {ns : List Int}
    (KX : K.In s₁.heap) (hns : s₁.heap.Ns mainGlobals mg) (hb : s₁.heap.Ns builtinsNs mb) (hbb : ∀ x : Str, x ≠ "__name__" → mb x = bootBuiltins x) (hlim : s₁.heap.NoLimit) (hdig : ∃ mc, s₁.heap.Ns cStatics mc ∧ mc "sys.int_max_str_digits" = none) (hg : s₁.gens = #[])
    (ha : s₁.heap.get? a = some { cls := .type "list", data := .seq vs.toArray }) (hi : IntsAre vs ns) (hl : ns.length ≤ sizeLine) (hr : Room k callerA)
    (F : ∀ base : Heap, K.In base → base.Ns mainGlobals mg → FnOk P w K mg base CX k fa fd [x] sp) (hbind : ∀ (s : Shared) (u : Value), BindsTo s fd ⟨[u], []⟩ [(x, u)])
    (hsp : ∀ H : Hp, Only H → SqL K H a (ns.map V.int) → sp [.ref a] H (fun v _ => v = .bl true) fun _ _ _ => False)
    (hCX : ∀ H e s', CX [] H s₁ (fun _ _ _ => False) e s' → False) :
    codeAny (model P w) callerA (.call (.ref fa) ⟨[.ref a], []⟩) (fun r s' => r = .ok (.ret (.bool true)) ∧ OldK s₁.heap s'.heap ∧ s'.os = s₁.os ∧ AllBare s'.gens) s₁ := by
  have rv := vals_ints hi
  have lenV := hi.length
  -- from an abstract heap in which nothing but the script may be tracked
  have core : ∀ H : Hp, Only H → SqL K H a (ns.map V.int) → HOk P w H s₁.heap → (∀ b, H b ≠ none → b = a) → (H a ≠ none → K.lookup a = none) →
      codeAny (model P w) callerA (.call (.ref fa) ⟨[.ref a], []⟩) (fun r s' => r = .ok (.ret (.bool true)) ∧ OldK s₁.heap s'.heap ∧ s'.os = s₁.os ∧ AllBare s'.gens) s₁ := by
    intro H hO hS hok hA hK
    have base_of : ∀ {b : Addr} {o : Obj}, s₁.heap.get? b = some o → H b = none → (hidT s₁.heap H).get? b = some o := fun e n => hidT_get e n
    have noA : ∀ {b : Addr} {o : Obj} {es : Array DictEntry} {ep : Nat}, s₁.heap.get? b = some o → o.data = .dict es ep → H b = none := fun {b o es ep} e d => by
      cases q : H b with
      | none => rfl
      | some u =>
        have e' : b = a := hA b (by rw [q]; simp)
        subst e'
        rw [ha] at e; cases e
        have d' : Data.seq vs.toArray _ = Data.dict es ep := d
        cases d'
    have nsK : ∀ {b : Addr} {m : Str → Option Value}, s₁.heap.Ns b m → (hidT s₁.heap H).Ns b m := fun {b m} ⟨o, es, ep, e, d, r⟩ => ⟨o, es, ep, base_of e (noA e d), d, r⟩
    have hKb : K.In (hidT s₁.heap H) := fun b o e => base_of (KX b o e) (by
      cases q : H b with
      | none => rfl
      | some u =>
        have e' : b = a := hA b (by rw [q]; simp)
        subst e'
        rw [hK (by rw [q]; simp)] at e; cases e)
    have hM : Mod K mg (hidT s₁.heap H) := ⟨hKb, nsK hns, ⟨mb, nsK hb, hbb⟩, (let ⟨mc, h1, h2⟩ := hlim; ⟨mc, nsK h1, h2⟩), let ⟨mc, h1, h2⟩ := hdig; ⟨mc, nsK h1, h2⟩⟩
    have e0 : Env0 P w K mg (hidT s₁.heap H) callerA [] s₁ H := ⟨rfl, hM, fun b o e => of_hidT e, Nat.le_of_eq (hidT_size _ _), trivial, fun b hb => absurd (show b ∈ ([] : List Addr) from hb) (by simp), hok, .of_eq hg⟩
    refine codeAny_mono ((F _ hKb (nsK hns)).run callerA [] s₁ H ⟨[.ref a], []⟩ [.ref a] [.ref a] _ _ hr e0 (hbind s₁ (.ref a)) (.cons rfl .nil) (hsp H hO hS)) fun r s' h => ?_
    cases r with
    | error e => exact (hCX H e s' h).elim
    | ok fl =>
      cases fl with
      | next => exact False.elim h
      | brk => exact False.elim h
      | cont => exact False.elim h
      | ret u =>
        obtain ⟨v, H', os, bare, un, hok', r', q⟩ := h
        have q' : v = .bl true := q
        subst q'
        obtain rfl : u = Value.bool true := r'
        refine ⟨rfl, OldK.of_keep fun b o e => ?_, os, bare⟩
        cases q : H b with
        | none => exact un.keep b o e q (by intro z; exact absurd (show b ∈ ([] : List Addr) from z) (by simp)) (by simp)
        | some u =>
          rcases hO b with z | ⟨ob, xs, z⟩
          · rw [q] at z; cases z
          · have z2 := un.frzs b ob _ z
            obtain ⟨e1, _⟩ := hok b _ z
            obtain ⟨e2, _⟩ := hok' b _ z2
            rw [e] at e1; cases e1
            exact e2
  cases hk : K.lookup a with
  | some o =>
    -- the script is one of the module's own objects
    have e := KX a o hk
    rw [ha] at e
    cases e
    refine core (fun _ => none) (fun _ => .inl rfl) (.inr ⟨_, vs.toArray, _, hk, rfl, rfl, rfl, by rw [List.size_toArray, lenV]; exact hl, by simpa using rv⟩) (fun b u z => by have z' : (none : Option HO) = some u := z; cases z') (fun b z => absurd rfl z) fun z => absurd rfl z
  | none =>
    refine core (fun b => if b = a then some (.frz { cls := .type "list", data := .seq vs.toArray } (.lst (ns.map V.int))) else none) (fun b => ?_) (.inl (.inr ⟨{ cls := .type "list", data := .seq vs.toArray }, if_pos rfl⟩)) (fun b u z => ?_) (fun b z => ?_) fun _ => hk
    · by_cases hb : b = a
      · exact .inr ⟨_, _, if_pos hb⟩
      · exact .inl (if_neg hb)
    · by_cases hb : b = a
      · have z' := (if_pos hb).symm.trans z
        cases z'
        subst hb
        exact ⟨ha, by rw [List.length_map]; exact hl, vs, _, rv, ha⟩
      · have z' := (if_neg hb).symm.trans z
        cases z'
    · by_cases hb : b = a
      · exact hb
      · exact absurd (if_neg hb) z
end L2

namespace L2
open PySem PySem.Spec PyProof.Rows

abbrev KOf {K : PySem.W.Frag} {h : Heap} (_ : K.In h) : PySem.W.Frag := K

/-- the goal that k_head leaves (case hc), from the law's promise. F gives the function object fd (K's own) once, then the promise over every base -/
theorem walk_of {l : PySem.W.OpenLaw} {n k : Nat} {q : Program} {loose : List Str} {XP : (Str → Option Value) → Heap → Prop} {YP : World → Heap → Prop} {d : DefRec} {K : Params → PySem.W.Frag} {CX : World → CXT} {sp : World → Sp} {x : Str}
    (hn : l.most = some n) (hn2 : n ≤ sizeLine) (hdf : d.params.defaults = []) (hr : Room k callerA)
    (hY : ∀ (w : World) (h : Heap), YP w h → (K w.params).In h)
    (F : ∀ (w : World) (mg : Str → Option Value) (fa : Addr) (h : Heap), (K w.params).In h → h.Ns mainGlobals mg → mg d.name = some (.ref fa) →
      ∃ fd : FuncData, (∀ (s : Shared) (u : Value), BindsTo s fd ⟨[u], []⟩ [(x, u)]) ∧
        ∀ base : Heap, (K w.params).In base → base.Ns mainGlobals mg → FnOk l.prog w (K w.params) mg base (CX w) k fa fd [x] (sp w))
    (hsp : ∀ (w : World) (H : Hp) (a : Addr) (ns : List Int), ns.length ≤ n → Only H → SqL (K w.params) H a (ns.map V.int) → sp w [.ref a] H (fun v _ => v = .bl true) fun _ _ _ => False)
    (hCX : ∀ (w : World) (H : Hp) (s : Shared) (e : Value) (s' : Shared), CX w [] H s (fun _ _ _ => False) e s' → False) :
    PySem.W.WalkO q loose XP YP l.row.toRowW d [] (fun f vs => PySem.call f vs) := by
  refine Att.attach_call hn hdf fun w s₀ s₁ mg mb fa o pm cd doc a vs ns G Y ho hd hcd hmg hobj hints hlen hg => ?_
  have KX := hY w _ Y
  obtain ⟨fd, hb, hF⟩ := F w mg fa _ KX G.T.g hmg
  exact law_call KX G.T.g G.T.b G.T.builtins G.T.nolimit G.T.nodigits hg hobj hints (Nat.le_trans hlen hn2) hr hF hb (fun H hO hS => hsp w H a ns hlen hO hS) fun H e s' => hCX w H s₁ e s'
end L2

/- THE LAST THEOREM (shape; LID, My.* are yours):
   My.Adr: a structure of the addresses that your layer names (classes, functions); My.Txt K t: a structure (Prop) of the equations over K;
   My.txt_mk : {K} {implicit addresses ..} (e1 : nsIn K mainGlobals "law" = some (some (.ref f))) (e2 : K.lookup f = some ⟨oc, od, .func (fnOf "law" "law" params body scope dV kV doc pm an cdv ct), sl⟩) (e3 : codeIn K cdv "law" = true) .. : ∃ t, My.Txt K t

set_option maxRecDepth 100000 in
set_option maxHeartbeats 0 in
theorem PySem.Challenge.cw_LID_holds : PySem.Challenge.rw_LID.Holds := by
  w_on; o_law; k_head; (case hw => w_witness2)
  k_fill
  refine L2.walk_of (l := PySem.Challenge.rw_LID) (n := 63) (k := 40) (x := "script") (CX := fun w => ..) (sp := fun _ => My.sp_law) rfl (by decide) rfl ⟨rfl, by decide, by decide⟩ (fun w h Y => PySem.W.kIn_of Y) ?F ?S ?C
  case F =>
    intro w mg fa h KX G hmg
    have T : ∃ t, My.Txt (L2.KOf KX) t := by
      dsimp only [L2.KOf]                          -- K must stand as «<heap const> w.params» for k_is
      refine' My.txt_mk ?e1 ?e2 ?e3 ..
      (case e1 => PySem.W.k_is)                    -- in the order: a name -> its address -> its object -> its parts
      (case e2 => PySem.W.k_is)
      ..
    obtain ⟨t, T⟩ := T
    have e0 := hmg.symm.trans (PySem.W.mg_of KX G T.law)
    cases e0                                       -- fa is the law's own address
    exact ⟨_, fun s u => .of_eq rfl, fun base kb nb => My.law_fn T kb nb⟩     -- if «.of_eq rfl» comes too early: refine' ⟨_, ?b, fun base kb nb => My.law_fn T kb nb⟩; exact fun s u => .of_eq rfl
  case S => exact fun w H a ns hl hO hS => ..
  case C => exact ..
(the tactic k_is has no namespace: write k_is) -/

/-! SHORT WORDS over the layer: a def of the text, its body, what a loop and a test want. -/
namespace L2
open PySem PySem.Spec PyProof.Rows

/-! ### the text by places -/
/-- the j-th statement of a class's body -/
def inClass (s : Stmt) (j : Nat) : Stmt := match s with
  | .ClassDef _ _ _ body _ _ _ _ _ _ _ => body.getD j (.Pass ⟨0, 0, 0, 0⟩)
  | _ => .Pass ⟨0, 0, 0, 0⟩
def defArgs (s : Stmt) : Arguments := match s with
  | .FunctionDef _ a _ _ _ _ _ _ _ _ => a
  | _ => { posonlyargs := [], args := [], vararg := none, kwonlyargs := [], kw_defaults := [], kwarg := none, defaults := [] }
def defBody (s : Stmt) : List Stmt := match s with
  | .FunctionDef _ _ b _ _ _ _ _ _ _ => b
  | _ => []
def defScope (s : Stmt) : Scope := match s with
  | .FunctionDef _ _ _ _ _ _ sc _ _ _ => sc
  | _ => { kind := .function, names := [], isGenerator := false, isCoroutine := false }

/-! ### no exception leaves a def -/
abbrev CX0 : CXT := fun _ _ _ _ _ _ => False
abbrev E0 : XK := fun _ _ _ => False
theorem pass0 {X : Cx} : Passes CX0 X E0 := fun _ _ _ _ _ _ _ h => h.elim

/-! ### a def (or method) of the text as it stands behind the top -/
structure Fun (K : PySem.W.Frag) (x qual : Str) (st : Stmt) (f : Addr) (fd : FuncData) : Prop where
  ex : ∃ (oc : Value) (od : Option Addr) (kV doc pm : Value) (an : Option Addr) (cdv ct : Value) (osl : Array (Option Value)),
    fd = PySem.W.fnOf x qual (defArgs st) (defBody st) (defScope st) .none kV doc pm an cdv ct ∧ K.lookup f = some ⟨oc, od, .func fd, osl⟩ ∧ PySem.W.codeIn K cdv qual = true
  kp : PySem.W.keepIn K (.ref f) = true
section
variable {P : Program} {w : World} {K : PySem.W.Frag} {mg : Str → Option Value} {base : Heap}
/-- THE RULE for a def: its body as a term of rules, and the reading of that term -/
theorem Fun.ok {x qual : Str} {st : Stmt} {f : Addr} {fd : FuncData} {N ps : List Str} {k : Nat} {sp : Sp} (F : Fun K x qual st f fd) (S : FnScope N ps (defScope st)) (len : ∀ vs H Q E, sp vs H Q E → vs.length = ps.length)
    (hbody : ∀ (cdv : Value) (A : Around) (outer : List Env) (s : Shared) (H : Hp) (vs : List V) (Q : VK) (E : XK), Room k (A.deeper (envOfC qual (defScope st) s.heap.objs.size f cdv)) → sp vs H Q E →
      ∃ t, PSs (cxOf CX0 P w K mg base N qual (defScope st) f cdv A outer s H E).nox (defBody st) t ∧ t { nx := fun _ H' => Q .non H', rt := Q } (start N vs) H) : FnOk P w K mg base CX0 (k + 1) f fd ps sp := by
  obtain ⟨oc, od, kV, doc, pm, an, cdv, ct, osl, rfl, lk, hcd⟩ := F.ex
  refine fn_of lk hcd S len fun A outer s H vs Q E hr hsp => ?_
  obtain ⟨t, h, q⟩ := hbody cdv A outer s H vs Q E hr hsp
  exact ⟨t, h.nox, q⟩
/-- how its arguments bind (no defaults): h is «fun _ _ _ _ _ _ us hl => match us, hl with | [_, _], _ => rfl», one _ a parameter -/
theorem Fun.binds {x qual : Str} {st : Stmt} {f : Addr} {fd : FuncData} {ps : List Str} (F : Fun K x qual st f fd)
    (h : ∀ (kV doc pm : Value) (an : Option Addr) (cdv ct : Value) (us : List Value), us.length = ps.length → bindArgs (PySem.W.fnOf x qual (defArgs st) (defBody st) (defScope st) .none kV doc pm an cdv ct) ⟨us, []⟩ = pure (ps.zip us)) : Binds K fd ps [] := by
  obtain ⟨oc, od, kV, doc, pm, an, cdv, ct, osl, rfl, lk, hcd⟩ := F.ex
  exact .all (h kV doc pm an cdv ct)
theorem fun_mk {x qual : Str} {st : Stmt} {f : Addr} {oc : Value} {od an : Option Addr} {osl : Array (Option Value)} {kV doc pm cdv ct : Value} (l : K.lookup f = some ⟨oc, od, .func (PySem.W.fnOf x qual (defArgs st) (defBody st) (defScope st) .none kV doc pm an cdv ct), osl⟩)
    (c : PySem.W.codeIn K cdv qual = true) (k : PySem.W.keepIn K (.ref f) = true) : Fun K x qual st f (PySem.W.fnOf x qual (defArgs st) (defBody st) (defScope st) .none kV doc pm an cdv ct) := ⟨⟨oc, od, kV, doc, pm, an, cdv, ct, osl, rfl, l, c⟩, k⟩
end
theorem hu_of {A : Around} {k : Nat} (hr : Room k A) : A.units + 1 < cLine := Nat.lt_of_le_of_lt (Nat.add_le_add_left (by decide : 1 ≤ 64) _) hr.units
theorem small1000 {n : Nat} (h : n ≤ 1000) : n < sizeLine := Nat.lt_of_le_of_lt h (by decide)

/-! ### expressions in short: the name that stands in the i-th slot -/
section
variable {X : Cx}
theorem pv (i : Nat) {x : Str} {pos : Pos} (hN : X.N[i]? = some x := by rfl) (hv : Vis X.env.scope x := by first | exact Or.inl rfl | exact Or.inr (Or.inl rfl) | exact Or.inr (Or.inr rfl)) (hd : (x == ("__debug__" : Str)) = false := by decide)
    (hcd : (x == ("__classdict__" : Str)) = false := by decide) : PE X (.Name x pos) (tVar i) := pe_var hN hv hd hcd
end

/-! ### tests -/
theorem iteF {A B : Prop} (h : B) : if false = true then A else B := by
  rw [if_neg Bool.false_ne_true]
  exact h
theorem iteT {A B : Prop} (h : A) : if true = true then A else B := by
  rw [if_pos rfl]
  exact h
theorem ite2 {c A B : Prop} [Decidable c] (h1 : c → A) (h2 : ¬ c → B) : if c then A else B := by
  by_cases h : c
  · rw [if_pos h]
    exact h1 h
  · rw [if_neg h]
    exact h2 h
/-! ### heaps -/
/-- all that was tracked is as it was -/
def Same (H H' : Hp) : Prop := ∀ b o, H b = some o → H' b = some o
theorem Same.refl (H : Hp) : Same H H := fun _ _ h => h
theorem Same.trans {H H1 H2 : Hp} (a : Same H H1) (b : Same H1 H2) : Same H H2 := fun c o h => b c o (a c o h)
theorem Same.free {H H' : Hp} (e : Same H H') {l : Addr} (h : H' l = Option.none) : H l = Option.none := by
  cases q : H l with
  | none => rfl
  | some o =>
    rw [e l o q] at h
    cases h
theorem Same.seq {K : PySem.W.Frag} {H H' : Hp} {a : Addr} {xs : List V} (e : Same H H') (h : SqL K H a xs) : SqL K H' a xs := by
  rcases h with (h | ⟨o, h⟩) | h
  · exact .inl (.inl (e _ _ h))
  · exact .inl (.inr ⟨o, e _ _ h⟩)
  · exact .inr h

/-! ### a dict's pairs: keys that differ -/
section
variable {κ : Type} [DecidableEq κ]
end
/-! ### lists -/
end L2

set_option Elab.async false
set_option linter.all false
set_option maxRecDepth 100000
namespace L2
open PySem PySem.Spec PyProof.Rows
section
variable {X : Cx}
/-! ### is, is not of two bools -/
def rIsB : R2 := fun x y H Q => ∃ i j, x = .bl i ∧ y = .bl j ∧ Q (.bl (decide (i = j))) H
def rIsntB : R2 := fun x y H Q => ∃ i j, x = .bl i ∧ y = .bl j ∧ Q (.bl (!decide (i = j))) H
/-! ### isinstance(x, T), T a built-in class -/
theorem call_isi : CallR X (.builtin "isinstance") (fun xs H Q => ∃ x T t b, xs = [x, .ty T] ∧ TyOf X.K H x t ∧ PySem.W.kitOne X.K t (.type T) = some b ∧ Q (.bl b) H) := by
  intro pins s σ H xs us Q I r h
  obtain ⟨x, T, t, b, rfl, ty, e, q⟩ := h
  obtain ⟨u, w', rfl, ru, rw'⟩ := vals2 r
  cases (show w' = Value.type T from rw')
  exact isinst_ok I ru ty e fun tk => ⟨.bl b, H, I.tok tk, rfl, q⟩
/-! ### products, powers of any size that the model bears -/
theorem op_mulB : OpR X (binaryOp .Mult) (rI IntMulOk fun i j => .int (i * j)) := opI fun _ _ _ _ _ _ _ hc q => mul_int q hc
end
end L2

set_option Elab.async false
set_option linter.all false
set_option maxRecDepth 100000
namespace L2
open PySem PySem.Spec PyProof.Rows
section
variable {X : Cx}
/-! ### t + u, whatever is empty: some tuple of both -/
def rCatA : R2 := fun x y H Q => ∃ a b xs ys, x = .ref a ∧ y = .ref b ∧ H a = some (.tup xs) ∧ H b = some (.tup ys) ∧ xs.length + ys.length ≤ sizeLine ∧
  ∀ r H', (∀ c o, H c = some o → H' c = some o) → H' r = some (.tup (xs ++ ys)) → Q (.ref r) H'
/-! ### t[a:b], the whole too -/
def rSlTA : V → Option Int → Option Int → Hp → VK → Prop := fun x lo hi H Q => ∃ a xs, x = .ref a ∧ H a = some (.tup xs) ∧ ∀ r H', (∀ c o, H c = some o → H' c = some o) → H' r = some (.tup (cutV xs lo hi)) → Q (.ref r) H'
/-! ### powers -/
def CPowB (i j : Int) : Prop := 0 < j ∧ 1 < i ∧ ¬ Builtin.Int.intTooBig (((Builtin.Int.intBits i : Nat) : Int) * j) = true
/-! ### repr, str of data -/
theorem call_repr (hu : X.A.units + 64 < cLine) (hg : X.A.guards = some []) : CallR X (.builtin "repr") (fun xs H Q => ∃ a d, xs = [.ref a] ∧ Dp X.K H (.ref a) d ∧ d.showable = true ∧ d.hasDict = false ∧ d.depth ≤ 20 ∧ d.shown.length ≤ sizeLine ∧ Q (.str d.shown) H) := by
  intro pins s σ H xs us Q I r h
  obtain ⟨a, d, rfl, dp, h1, h2, h3, h4, q⟩ := h
  obtain ⟨u, rfl, ru⟩ := vals1 r
  cases ru
  obtain ⟨as, rd⟩ := Dp.reads I d (.ref a) (.ref a) dp rfl
  exact repr_of_reads' rd h1 (fun z => by rw [h2] at z; cases z) hg (by omega) (fun b o e => e) (fun h' u tk k => ⟨.str d.shown, H, I.kept k, ⟨u, rfl⟩, q⟩) h4
/-! ### n.bit_length() -/
theorem mt_bits : MtR X "int.bit_length" (fun x xs H Q => ∃ i, x = .int i ∧ xs = [] ∧ Q (.int (Builtin.Int.intBits i : Nat)) H) := by
  intro pins s σ H x xs v us Q I rx r h
  obtain ⟨i, rfl, rfl, q⟩ := h
  cases r
  obtain ⟨t, rfl⟩ := rx
  exact call_int_bit_length ⟨.int _, H, I.tok _, ⟨_, rfl⟩, q⟩
/-! ### range(n) as a value; reversed(range(n)) -/
end
end L2

set_option Elab.async false
set_option linter.all false
set_option maxRecDepth 100000
namespace PySem
namespace DwX
def rgSmall (a b c : Int) : Bool := Builtin.Range.rangeFitsLong a && Builtin.Range.rangeFitsLong b && Builtin.Range.rangeFitsLong c && Builtin.Range.rangeFitsLong (-c) && Builtin.Range.rangeFitsLong (a - c) && Builtin.Range.rangeFitsLong (Builtin.Range.rangeSize a b c)
def rgObj (x left step : Int) : Obj := { cls := .type "range_iterator", data := .fields #[rawInt x, rawInt left, rawInt step] }
section
variable {prog : Program} {w : World} {A : Around} {E : Value → Shared → Prop} {s : Shared}
end
end DwX
end PySem

set_option Elab.async false
set_option linter.all false
set_option maxRecDepth 100000
namespace L2
open PySem PySem.Spec PyProof.Rows
section
variable {X : Cx}
/-- reversed(range(j)) -/
def iRevR (ta : TA) : TI := fun σ H R => ta σ H fun vs H1 => ∃ (a : Addr) (j : Int), vs = [.ref a] ∧ H1 a = some (.rng 0 j) ∧ 0 ≤ j ∧ j < 2 ^ 62 ∧ R (Itc (j - 1) (-1) j.toNat) H1
/-! ### powers -/
/-! ### text * n -/
def rRepS : R2 := fun x y H Q => ∃ z n, x = .str z ∧ y = .int n ∧ 1 < n ∧ 0 < z.length ∧ z.length * n.toNat ≤ sizeLine ∧ n < 2 ^ 40 ∧ ∀ z', Q (.str z') H
end
end L2

set_option Elab.async false
set_option linter.all false
set_option maxRecDepth 100000
namespace PySem
namespace DwX
end DwX
end PySem

namespace L2
open PySem PySem.Spec PyProof.Rows
section
variable {X : Cx}
/-- tuple * n -/
def rRepT (K : PySem.W.Frag) : R2 := fun x y H Q => ∃ a k xs, x = .ref a ∧ y = .int k ∧ SqT K H a xs ∧ xs ≠ [] ∧ 1 < k ∧ k < 2 ^ 40 ∧ xs.length * k.toNat ≤ sizeLine ∧
  ∀ p, H p = none → Q (.ref p) (upd H p (.tup (List.replicate k.toNat xs).flatten))
/-! ### {t: v}, the key a tuple of ints and texts -/
def tDisp1 (tk tv : TE) : TE := fun σ H Q => ∀ p H0, H p = none → Same H H0 → H0 p = some (.dT []) → tk σ H0 fun x H1 => tv σ H1 fun y H2 => H2 p = some (.dT []) ∧ ∃ b ks, x = .ref b ∧ H2 b = some (.tup (ks.map kV)) ∧
  ∀ H3, (∀ b o, H2 b = some o → b ≠ p → H3 b = some o) → (∀ b, H3 b = none → H2 b = none) → H3 p = some (.dT [(ks, y)]) → Q (.ref p) H3
end
end L2

set_option Elab.async false
set_option linter.all false
set_option maxRecDepth 100000
namespace L2
open PySem PySem.Spec PyProof.Rows
/-! ### a def of the text that is called by its name: all that a caller asks -/
structure Cal (P : Program) (w : World) (K : PySem.W.Frag) (mg : Str → Option Value) (base : Heap) (k : Nat) (x : Str) (ps : List Str) (sp : Sp) : Prop where
  ex : ∃ (f : Addr) (fd : FuncData), FnOk P w K mg base CX0 k f fd ps sp ∧ mg x = some (.ref f) ∧ PySem.W.keepIn K (.ref f) = true ∧ Binds K fd ps []
/-- .. by names alone: ks the keywords' names as they are written, gV puts their values in the parameters' order -/
structure CalK (P : Program) (w : World) (K : PySem.W.Frag) (mg : Str → Option Value) (base : Heap) (k : Nat) (x : Str) (ps ks : List Str) (gV : List V → List V → List V) (sp : Sp) : Prop where
  ex : ∃ (f : Addr) (fd : FuncData) (g : List Value → List Value → List Value), FnOk P w K mg base CX0 k f fd ps sp ∧ mg x = some (.ref f) ∧ PySem.W.keepIn K (.ref f) = true ∧ KBinds K fd ps ks g gV
section
variable {X : Cx} {k : Nat} {x : Str} {ps ks : List Str} {gV : List V → List V → List V} {sp : Sp} {p pos : Pos} {e : Expr} {es : List Expr} {kws : List Keyword} {t tk : TA}
theorem pe_cal (C : Cal X.prog X.w X.K X.mg X.base k x ps sp) (hr : Room k X.A) (hg : Gl X x) (ha : PA X (e :: es) t) (hdb : (x == ("__debug__" : Str)) = false := by decide)
    (he : starEach (e :: es) X.env = (false, eval e X.env) :: starEach es X.env := by rfl) (hpl : (backTo pos (starEach es X.env)).any (·.1) = false := by rfl) : PE X (.Call (.Name x p) (e :: es) [] pos) (tCall sp [] E0 t) := by
  obtain ⟨f, fd, F, hm, hk, hb⟩ := C.ex
  exact pe_call F hr hg hm hk hb .nil pass0 ha hdb he hpl
end
/-- for i, x in enumerate(xs) -/
theorem for_enum {K : PySem.W.Frag} {a : Addr} {xs : List V} {g : TG} {tb : TS} {D : Ends} {σ : St} {H : Hp} (Pv : Nat → St → Hp → Prop) (h0 : Pv 0 σ H) (hl : ∀ i σ H, i ≤ xs.length → Pv i σ H → SqL K H a xs)
    (hs : ∀ i x σ H T, xs[i]? = some x → Pv i σ H → H T = none → g (.ref T) σ (upd H T (.tup [.int (i : Nat), x])) fun σ2 H2 => tb { D with nx := Pv (i + 1), ct := Pv (i + 1), bk := D.nx } σ2 H2) (hd : ∀ σ H, Pv xs.length σ H → D.nx σ H) :
    ∃ W : Nat → Nat → St → Hp → Prop, (∃ m, W 0 m σ H) ∧ ∀ i m σ H, W i m σ H →
      ((Ite K a).stop i H ∧ D.nx σ H) ∨ ((Ite K a).go i H ∧ ∃ N : St → Hp → Prop, (∀ σ' H', N σ' H' → ∃ m', m' < m ∧ W (i + 1) m' σ' H') ∧ ∀ x H', (Ite K a).yld i H x H' → g x σ H' fun σ2 H2 => tb { D with nx := N, ct := N, bk := D.nx } σ2 H2) := by
  refine ⟨fun i m σ H => m = xs.length - i ∧ i ≤ xs.length ∧ Pv i σ H, ⟨xs.length, by simp, Nat.zero_le _, h0⟩, ?_⟩
  rintro i m σ H ⟨rfl, hle, p⟩
  by_cases hlt : i < xs.length
  · obtain ⟨x, hx⟩ : ∃ x, xs[i]? = some x := ⟨xs[i], List.getElem?_eq_getElem hlt⟩
    refine .inr ⟨⟨xs, x, hl i σ H hle p, hx⟩, Pv (i + 1), fun σ' H' p' => ⟨xs.length - (i + 1), by omega, rfl, hlt, p'⟩, fun y H' yl => ?_⟩
    obtain ⟨T, z, e1, e2, e3, e4⟩ := yl
    have e5 : z = x := Option.some.inj ((e4 xs (hl i σ H hle p)).symm.trans hx)
    subst e1 e3 e5
    exact hs i z σ H T hx p e2
  · have e : i = xs.length := by omega
    subst e
    exact .inl ⟨⟨xs, hl _ σ H hle p, Nat.le_refl _⟩, hd σ H p⟩
end L2

set_option Elab.async false
set_option linter.all false
set_option maxRecDepth 100000
namespace L2
open PySem PySem.Spec PyProof.Rows
section
variable {X : Cx} {pos : Pos}
/-- a, b, c = e1, e2, e3 -/
def tPar3 (i j k : Nat) (ta : TA) : TS := fun D σ H => ta σ H fun vs H1 => ∃ v w z, vs = [v, w, z] ∧ D.nx (((σ.set i (some v)).set j (some w)).set k (some z)) H1
end
end L2

set_option Elab.async false
set_option linter.all false
set_option maxRecDepth 100000
namespace L2
open PySem PySem.Spec PyProof.Rows
theorem same_upd {H : Hp} {p : Addr} {o : HO} (h : H p = none) : Same H (upd H p o) := fun b x e => by rw [upd_ne (ne_of_none e h)]; exact e
/-- a new object, the heap behind it a letter -/
def Born (H : Hp) (o : HO) (Q : VK) : Prop := ∀ p H', H p = none → Same H H' → H' p = some o → Q (.ref p) H'
theorem Born.at {H : Hp} {o : HO} {Q : VK} (h : Born H o Q) {p : Addr} (hp : H p = none) : Q (.ref p) (upd H p o) := h p _ hp (same_upd hp) upd_same
def tTupA (t : TA) : TE := fun σ H Q => t σ H fun xs H1 => xs.length ≤ sizeLine ∧ Born H1 (.tup xs) Q
def tLstA (t : TA) : TE := fun σ H Q => t σ H fun xs H1 => xs.length ≤ sizeLine ∧ Born H1 (.lst xs) Q
section
variable {X : Cx} {es : List Expr} {t : TA} {pos : Pos}
theorem pe_tupA {x1} (h : PA X es t) : PE X (.Tuple es x1 pos) (tTupA t) := by
  intro pins s σ H Q I hq
  refine wpAny_Tuple_spliced (thn (h pos pins s σ H _ I hq) fun us s1 ⟨xs, H1, I1, r, z, q⟩ => ⟨by rw [← r.length]; exact z, ?_⟩)
  refine ⟨.ref s1.heap.objs.size, upd H1 s1.heap.objs.size (.tup xs), I1.laid (t' := s1.toks) (fun b u e => Heap.get?_push_of_some _ e) (Nat.le_refl _) ?_, rfl, q.at (I1.hok.fresh (Nat.le_refl _))⟩
  exact ⟨z, us, r, ⟨_, Heap.get?_push_size _ rfl, rfl, _, rfl⟩⟩
theorem pe_lstA (h : PA X es t) : PE X (.List es pos) (tLstA t) := by
  intro pins s σ H Q I hq
  refine wpAny_List_spliced (thn (h pos pins s σ H _ I hq) fun us s1 ⟨xs, H1, I1, r, z, q⟩ => ⟨by rw [← r.length]; exact z, ?_⟩)
  refine ⟨.ref s1.heap.objs.size, upd H1 s1.heap.objs.size (.lst xs), I1.laid (t' := s1.toks) (fun b u e => Heap.get?_push_of_some _ e) (Nat.le_refl _) ?_, rfl, q.at (I1.hok.fresh (Nat.le_refl _))⟩
  exact ⟨z, us, 0, r, Heap.get?_push_size _ rfl⟩
def tDNewA : TE := fun _ H Q => Born H (.dK []) Q
def rCatL : R2 := fun x y H Q => ∃ l b xs zs, x = .ref l ∧ y = .ref b ∧ H l = some (.lst xs) ∧ H b = some (.lst zs) ∧ xs.length + zs.length ≤ sizeLine ∧ Born H (.lst (xs ++ zs)) Q
theorem op_catL : OpR X (binaryOp .Add) rCatL := by
  intro pins s σ H x y v u Q I rx ry ⟨l, b, xs, zs, h1, h2, h3, h4, h5, q⟩
  exact op_cat pins s σ H x y v u Q I rx ry ⟨l, b, xs, zs, h1, h2, h3, h4, h5, fun p hp => q.at hp⟩
def rRepL : R2 := fun x y H Q => ∃ l k xs, x = .ref l ∧ y = .int k ∧ H l = some (.lst xs) ∧ -(2 ^ 63) ≤ k ∧ k < 2 ^ 63 ∧ xs.length * k.toNat ≤ sizeLine ∧ Born H (.lst (List.replicate k.toNat xs).flatten) Q
def rRepTA (K : PySem.W.Frag) : R2 := fun x y H Q => ∃ a k xs, x = .ref a ∧ y = .int k ∧ SqT K H a xs ∧ xs ≠ [] ∧ 1 < k ∧ k < 2 ^ 40 ∧ xs.length * k.toNat ≤ sizeLine ∧ Born H (.tup (List.replicate k.toNat xs).flatten) Q
def rSlLA (K : PySem.W.Frag) : V → Option Int → Option Int → Hp → VK → Prop := fun x lo hi H Q => ∃ a xs, x = .ref a ∧ SqL K H a xs ∧ Born H (.lst (cutV xs lo hi)) Q
theorem sl_listA : SlR X (rSlLA X.K) := by
  intro pins s σ H x v vl vu lo hi sl Q I rx hs pl pu ⟨a, xs, h1, h2, q⟩
  exact sl_list pins s σ H x v vl vu lo hi sl Q I rx hs pl pu ⟨a, xs, h1, h2, fun p hp => q.at hp⟩
/-- {k: v, ..}, keys ints and texts -/
def tDispA (trs : List (TE × TE)) : TE := fun σ H Q => ∀ p H0, H p = none → Same H H0 → H0 p = some (.dK []) → tPairs trs σ H0 fun ps H2 => H2 p = some (.dK []) ∧ ∃ kvs : List (Key × V), ps = kvs.map (fun kv => (kV kv.1, kv.2)) ∧ kvs.length ≤ 15 ∧
  ∀ H3, (∀ b o, H2 b = some o → b ≠ p → H3 b = some o) → (∀ b, H3 b = none → H2 b = none) → H3 p = some (.dK (mergeK [] kvs)) → Q (.ref p) H3
theorem pe_dispA {keys : List (Option Expr)} {values : List Expr} {trs : List (TE × TE)} (h : PPs X pos keys values trs) (hall : keys.all (·.isSome) = true) (hl : keys.length = values.length) (h0 : keys ≠ [])
    (h15 : keys.length ≤ 15) : PE X (.Dict keys values pos) (tDispA trs) := by
  intro pins s σ H Q I q
  have hn := I.hok.fresh (Nat.le_refl s.heap.objs.size)
  have I1 := I.laid (a := s.heap.objs.size) (o := .dK []) (h' := s.heap.push { cls := .type "dict", data := .dict #[] }) (t' := s.toks) (fun _ _ q => Heap.get?_push_of_some _ q) (Nat.le_refl _) (dk_empty s.heap I.big)
  refine wpAny_Dict_walk (knd := mixKind X.prog X.w) hall hl h0 h15 (thn (h pins _ σ _ _ I1 (q _ _ hn (same_upd hn) upd_same)) fun ws s2 ⟨ps, H2, I2, rel, e, kvs, ep, lk, q2⟩ => ?_)
  subst ep
  obtain ⟨rs, c, rk⟩ := carries_of (P := X.prog) (w := X.w) rel
  obtain ⟨z, hd, vs0, r0, dd⟩ := dk_of I2.hok e
  cases r0
  refine ⟨rs, c, dd, fun h' dd' hs => ⟨.ref s.heap.objs.size, _, ?_, rfl, q2 (upd H2 s.heap.objs.size (.dK (mergeK [] kvs))) (fun b o eb hb => by rw [upd_ne hb]; exact eb) (fun b eb => ?_) upd_same⟩⟩
  · have hz : (mergeK [] kvs).length ≤ sizeLine := by
      have h1 := length_mergeK kvs []
      rw [List.length_nil] at h1
      rw [sizeLine_eq]; omega
    have he : ∃ q, h'.get? s.heap.objs.size = some q := let ⟨q, _, _, hq, _⟩ := dd'; ⟨q, hq⟩
    exact d_write I2 (by rw [e]; exact True.intro) hs he (dk_new hz hd (rk.merge .nil) dd')
  · by_cases hb : b = s.heap.objs.size
    · subst hb; rw [upd_same] at eb; cases eb
    · rwa [upd_ne hb] at eb
end
end L2

set_option Elab.async false
set_option linter.all false
set_option maxRecDepth 100000
/-! readings step by step: each lemma opens one word, so that nothing is unfolded by unification -/
namespace L2
open PySem PySem.Spec
section
variable {σ : St} {H : Hp} {Q : VK} {D : Ends} {K : PySem.W.Frag}
theorem i_seq {t u : TS} (h : t { D with nx := u D } σ H) : tSeq t u D σ H := h
theorem i_next (h : D.nx σ H) : tNext D σ H := h
theorem i_asg {te : TE} {g : TG} (h : te σ H fun x H1 => g x σ H1 D.nx) : tAsg te g D σ H := h
theorem i_ret {te : TE} (h : te σ H D.rt) : tRet te D σ H := h
theorem i_drop {te : TE} (h : te σ H fun _ H1 => D.nx σ H1) : tDrop te D σ H := h
theorem i_ifS {c : TT} {t u : TS} (h : c σ H fun b H1 => if b = true then t D σ H1 else u D σ H1) : tIfS c t u D σ H := h
theorem i_gname {i : Nat} {v : V} {R : St → Hp → Prop} (h : R (σ.set i (some v)) H) : gName i v σ H R := h
theorem i_op {r : R2} {ta tb : TE} (h : ta σ H fun x H1 => tb σ H1 fun y H2 => r x y H2 Q) : tOp r ta tb σ H Q := h
theorem i_un {r : V → Hp → VK → Prop} {ta : TE} (h : ta σ H fun x H1 => r x H1 Q) : tUn r ta σ H Q := h
theorem i_c {v : V} (h : Q v H) : tC v σ H Q := h
theorem i_var {i : Nat} {v : V} (h : Q v H) (e : σ[i]? = some (some v) := by with_unfolding_all rfl) : tVar i σ H Q := ⟨v, e, h⟩
theorem i_rI0 {g : Int → Int → V} {i j : Int} (h : Q (g i j) H) : rI0 g (.int i) (.int j) H Q := ⟨i, j, rfl, rfl, h⟩
theorem i_rI {C : Int → Int → Prop} {g : Int → Int → V} {i j : Int} (c : C i j) (h : Q (g i j) H) : rI C g (.int i) (.int j) H Q := ⟨i, j, rfl, rfl, c, h⟩
theorem cm_l {i j : Int} (h : -(2 ^ 64) < i) (h' : i < 2 ^ 64) : CMul i j := .inl ⟨h, h'⟩
theorem cm_r {i j : Int} (h : -(2 ^ 64) < j) (h' : j < 2 ^ 64) : CMul i j := .inr ⟨h, h'⟩
theorem cp_lit {i j : Int} (h : 0 ≤ j) (h' : j ≤ 1000000) (h2 : i.natAbs < 2 ^ 64) : CPow i j := ⟨h, h', h2⟩
theorem i_rIa {C : Int → Int → Prop} {g : Int → Int → V} {i j : Int} (h : Q (g i j) H) (c : C i j := by with_unfolding_all (first | exact cm_r (by decide) (by decide) | exact cm_l (by decide) (by decide) | exact (by decide : (0 : Int) < _) | exact cd_lit (by decide) (by decide) | exact cp_lit (by decide) (by decide) (by decide))) : rI C g (.int i) (.int j) H Q := ⟨i, j, rfl, rfl, c, h⟩
theorem i_rU {g : Int → V} {i : Int} (h : Q (g i) H) : rU g (.int i) H Q := ⟨i, rfl, h⟩
theorem i_test {te : TE} {R : Bool → Hp → Prop} (h : te σ H fun x H' => ∃ k, x = .bl k ∧ R k H') : tTest te σ H R := h
theorem i_b {te : TE} {R : Bool → Hp → Prop} (h : te σ H fun x H' => ∃ k, x = .bl k ∧ R k H') : tB te σ H R := h
theorem i_bl {k : Bool} {R : Bool → Prop} (h : R k) : ∃ k', V.bl k = .bl k' ∧ R k' := ⟨k, rfl, h⟩
theorem i_if {t : TT} {ta tb : TE} (h : t σ H fun c H1 => if c = true then ta σ H1 Q else tb σ H1 Q) : tIf t ta tb σ H Q := h
theorem i_and {t u : TT} {R : Bool → Hp → Prop} (h : t σ H fun c H1 => if c = true then u σ H1 R else R false H1) : tAnd t u σ H R := h
theorem i_or {t u : TT} {R : Bool → Hp → Prop} (h : t σ H fun c H1 => if c = true then R true H1 else u σ H1 R) : tOr t u σ H R := h
theorem i_not {t : TT} {R : Bool → Hp → Prop} (h : t σ H fun c H1 => R (!c) H1) : tNot t σ H R := h
theorem i_andV {ta tb : TE} (h : ta σ H fun x H1 => ∃ c, x = .bl c ∧ if c = true then tb σ H1 Q else Q (.bl false) H1) : tAndV ta tb σ H Q := h
theorem i_orV {ta tb : TE} (h : ta σ H fun x H1 => ∃ c, x = .bl c ∧ if c = true then Q (.bl true) H1 else tb σ H1 Q) : tOrV ta tb σ H Q := h
theorem i_notV {ta : TE} (h : ta σ H fun x H1 => ∃ c, x = .bl c ∧ Q (.bl (!c)) H1) : tNotV ta σ H Q := h
theorem i_cons {ta : TE} {tr : TA} {R : List V → Hp → Prop} (h : ta σ H fun x H1 => tr σ H1 fun xs H2 => R (x :: xs) H2) : tCons ta tr σ H R := h
theorem i_nil {R : List V → Hp → Prop} (h : R [] H) : tNil σ H R := h
theorem i_call {sp : Sp} {E : XK} {t : TA} (h : t σ H fun vs H1 => sp vs H1 Q E) : tCall sp [] E t σ H Q := by
  have e : (fun (vs : List V) H1 => sp (vs ++ []) H1 Q E) = fun vs H1 => sp vs H1 Q E := by funext vs H1; rw [List.append_nil]
  show t σ H fun vs H1 => sp (vs ++ []) H1 Q E
  rw [e]
  exact h
theorem i_cb {r : List V → Hp → VK → Prop} {t : TA} (h : t σ H fun vs H1 => r vs H1 Q) : tCB r t σ H Q := h
theorem i_tup {t : TA} (h : t σ H fun xs H1 => xs.length ≤ sizeLine ∧ Born H1 (.tup xs) Q) : tTupA t σ H Q := h
theorem i_lst {t : TA} (h : t σ H fun xs H1 => xs.length ≤ sizeLine ∧ Born H1 (.lst xs) Q) : tLstA t σ H Q := h
theorem i_dget {td ty : TE} (h : td σ H fun x H1 => ty σ H1 fun y H2 => ∃ a v, x = .ref a ∧ DGet H2 a y (some v) ∧ Q v H2) : tDGet td ty σ H Q := h
theorem i_eqI {i j : Int} (h : Q (.bl (decide (i = j))) H) : rEq (.int i) (.int j) H Q := ⟨rfl, by
  have e : decide (V.int i = V.int j) = decide (i = j) := by rw [dec_int]; rfl
  rw [e]; exact h⟩
theorem i_neI {i j : Int} (h : Q (.bl (!decide (i = j))) H) : rNe (.int i) (.int j) H Q := ⟨rfl, by
  have e : decide (V.int i = V.int j) = decide (i = j) := by rw [dec_int]; rfl
  rw [e]; exact h⟩
theorem i_ixL {p : Addr} {xs : List V} {i : Int} {v : V} (s : H p = some (.lst xs)) (a : atI xs i = some v) (h : Q v H) : rIxL K (.ref p) (.int i) H Q := ⟨p, xs, i, v, rfl, rfl, SqL.of s, a, h⟩
theorem i_pick {p : Addr} {xs : List V} {r t : Int} (s : H p = some (.lst xs)) (h0 : 0 ≤ r) (h1 : r < t) (hl : (xs.length : Int) = t) (h : ∀ v, v ∈ xs → Q v H) : rIxL K (.ref p) (.int r) H Q := by
  obtain ⟨j, rfl⟩ : ∃ j : Nat, r = j := ⟨r.toNat, by omega⟩
  have hj : j < xs.length := by omega
  exact ⟨p, xs, j, xs[j], rfl, rfl, SqL.of s, atI_nat (List.getElem?_eq_getElem hj), h _ (List.getElem_mem hj)⟩
theorem i_sl {r : V → Option Int → Option Int → Hp → VK → Prop} {te : TE} {tl th : TO} (h : te σ H fun x H1 => tl σ H1 fun l H2 => th σ H2 fun u H3 => r x l u H3 Q) : tSl r te tl th σ H Q := h
theorem i_nopart {R : Option Int → Hp → Prop} (h : R none H) : tNoPart σ H R := h
theorem i_part {t : TE} {R : Option Int → Hp → Prop} (h : t σ H fun x H1 => ∃ i, x = .int i ∧ R (some i) H1) : tPart t σ H R := h
theorem i_int {i : Int} {R : Int → Prop} (h : R i) : ∃ i', V.int i = .int i' ∧ R i' := ⟨i, rfl, h⟩
theorem i_par {i j : Nat} {ta : TA} (h : ta σ H fun vs H1 => ∃ v w, vs = [v, w] ∧ D.nx ((σ.set i (some v)).set j (some w)) H1) : tPar i j ta D σ H := h
theorem i_two {v w : V} {R : V → V → Prop} (h : R v w) : ∃ v' w', [v, w] = [v', w'] ∧ R v' w' := ⟨v, w, rfl, h⟩
theorem i_strs {a b : Str} (h : Q (.bl (!decide (a = b))) H) : rNe (.str a) (.str b) H Q := ⟨rfl, by
  have e : decide (V.str a = V.str b) = decide (a = b) := by rw [dec_str]; by_cases z : a = b <;> simp [z]
  rw [e]; exact h⟩
theorem i_isB {i j : Bool} (h : Q (.bl (decide (i = j))) H) : rIsB (.bl i) (.bl j) H Q := ⟨i, j, rfl, rfl, h⟩
theorem i_isntB {i j : Bool} (h : Q (.bl (!decide (i = j))) H) : rIsntB (.bl i) (.bl j) H Q := ⟨i, j, rfl, rfl, h⟩
theorem i_for {wi : TI} {g : TG} {tb : TS} (h : wi σ H fun J H1 => ∃ W : Nat → Nat → St → Hp → Prop, (∃ m, W 0 m σ H1) ∧ ∀ i m σ H, W i m σ H →
  (J.stop i H ∧ D.nx σ H) ∨ (J.go i H ∧ ∃ N : St → Hp → Prop, (∀ σ' H', N σ' H' → ∃ m', m' < m ∧ W (i + 1) m' σ' H') ∧ ∀ x H', J.yld i H x H' → g x σ H' fun σ2 H2 => tb { D with nx := N, ct := N, bk := D.nx } σ2 H2)) : tFor wi g tb D σ H := h
theorem i_itup {te : TE} {R : It → Hp → Prop} (h : te σ H fun x H1 => ∃ a, x = .ref a ∧ (∃ xs, SqT K H1 a xs) ∧ R (Itt K a) H1) : iTup K te σ H R := h
theorem i_ilist {te : TE} {R : It → Hp → Prop} (h : te σ H fun x H1 => ∃ a, x = .ref a ∧ (∃ xs, SqL K H1 a xs) ∧ R (Itl K a) H1) : iList K te σ H R := h
theorem i_rng1 {ta : TA} {R : It → Hp → Prop} (h : ta σ H fun vs H1 => ∃ j : Int, vs = [.int j] ∧ -(2 ^ 62) ≤ j ∧ j < 2 ^ 62 ∧ R (Itr 0 j.toNat) H1) : iRng1 ta σ H R := h
theorem i_chain {r r' : R2} {ta tb tc : TE} (h : ta σ H fun x H1 => tb σ H1 fun y H2 => r x y H2 fun z H3 => ∃ k, z = .bl k ∧ if k = true then tc σ H3 fun u H4 => r' y u H4 Q else Q (.bl false) H3) : tChain r r' ta tb tc σ H Q := h
end
end L2

set_option Elab.async false
set_option linter.all false
set_option maxRecDepth 100000
/-! the rules behind a lid, so that no unifier looks into a judgement -/
namespace L2
open PySem PySem.Spec PyProof.Rows
@[irreducible] def Wr (p : Prop) : Prop := p
theorem Wr.mk {p : Prop} (h : p) : Wr p := by unfold Wr; exact h
theorem Wr.un {p : Prop} (h : Wr p) : p := by unfold Wr at h; exact h
section
variable {X : Cx} {a b c e o : Expr} {es rest : List Expr} {ta tb tc te to : TE} {tA tB' : TT} {t u : TA} {pos p pos' apos cpos : Pos}
theorem wv (i : Nat) {x : Str} {pos : Pos} (hN : X.N[i]? = some x := by rfl) (hv : Vis X.env.scope x := by first | exact Or.inl rfl | exact Or.inr (Or.inl rfl) | exact Or.inr (Or.inr rfl)) (hd : (x == ("__debug__" : Str)) = false := by decide)
    (hcd : (x == ("__classdict__" : Str)) = false := by decide) : Wr (PE X (.Name x pos) (tVar i)) := .mk (pv i hN hv hd hcd)
theorem we_int {i j pos} : Wr (PE X (.Constant (.int i) j pos) (tC (.int i))) := .mk pe_int
theorem we_bl {b j pos} : Wr (PE X (.Constant (.bool b) j pos) (tC (.bl b))) := .mk pe_bl
theorem we_non {j pos} : Wr (PE X (.Constant .none j pos) (tC .non)) := .mk pe_non
theorem we_str {x j pos} : Wr (PE X (.Constant (.str x) j pos) (tC (.str x))) := .mk pe_str
theorem we_glob {x : Str} {v : V} {u : Value} (hg : Gl X x) (hm : X.mg x = some u) (r : RelV v u) (hd : (x == ("__debug__" : Str)) = false := by decide) : Wr (PE X (.Name x pos) (tC v)) := .mk (pe_glob hg hm r hd)
theorem we_bltn {x : Str} {v : V} {u : Value} (hg : Gl X x) (hm : X.mg x = none) (hv : bootBuiltins x = some u) (r : RelV v u) (hn : x ≠ "__name__" := by decide) (hd : (x == ("__debug__" : Str)) = false := by decide) : Wr (PE X (.Name x pos) (tC v)) := .mk (pe_bltn hg hm hv r hn hd)
theorem we_op {op : Operator} {r : R2} (ho : OpR X (binaryOp op) r) (ha : Wr (PE X a ta)) (hb : Wr (PE X b tb)) : Wr (PE X (.BinOp a op b pos) (tOp r ta tb)) := .mk (pe_op ho ha.un hb.un)
theorem we_un {op : UnaryOp} {r : V → Hp → VK → Prop} (ho : UnR X (unaryOp op) r) (ha : Wr (PE X a ta)) : Wr (PE X (.UnaryOp op a pos) (tUn r ta)) := .mk (pe_un ho ha.un)
theorem we_cmpR {op : CmpOp} {r : R2} (ho : OpR X (compareOp op) r) (ha : Wr (PE X a ta)) (hb : Wr (PE X b tb)) (hm : behindInMarks op b = false) : Wr (PE X (.Compare a [op] [b] pos) (tOp r ta tb)) := .mk (pe_cmpR ho ha.un hb.un hm)
theorem we_chain {op op' : CmpOp} {r r' : R2} (ho : OpR X (compareOp op) r) (ho' : OpR X (compareOp op') r') (ha : Wr (PE X a ta)) (hb : Wr (PE X b tb)) (hc : Wr (PE X c tc)) (hm : lastMarks [op, op'] [b, c] = false := by with_unfolding_all rfl) :
    Wr (PE X (.Compare a [op, op'] [b, c] pos) (tChain r r' ta tb tc)) := .mk (pe_chain ho ho' ha.un hb.un hc.un hm)
theorem we_and (ha : Wr (PE X a ta)) (hb : Wr (PE X (.BoolOp .And (b :: rest) pos) tb)) : Wr (PE X (.BoolOp .And (a :: b :: rest) pos) (tAndV ta tb)) := .mk (pe_and ha.un hb.un)
theorem we_one {op} {t : TE} (h : Wr (PE X a t)) : Wr (PE X (.BoolOp op [a] pos) t) := .mk (pe_one h.un)
theorem we_not (ha : Wr (PE X a ta)) : Wr (PE X (.UnaryOp .Not a pos) (tNotV ta)) := .mk (pe_not ha.un)
theorem we_ifExp (hc : Wr (PT X c tA)) (ha : Wr (PE X a ta)) (hb : Wr (PE X b tb)) : Wr (PE X (.IfExp c a b pos) (tIf tA ta tb)) := .mk (pe_ifExp hc.un ha.un hb.un)
theorem wa_nil : Wr (PA X [] tNil) := .mk pa_nil
theorem wa_cons (ha : Wr (PE X e te)) (hr : Wr (PA X es t)) (hs : starEach (e :: es) X.env = (false, eval e X.env) :: starEach es X.env := by rfl) : Wr (PA X (e :: es) (tCons te t)) := .mk (pa_cons ha.un hr.un hs)
theorem we_lstA (h : Wr (PA X es t)) : Wr (PE X (.List es pos) (tLstA t)) := .mk (pe_lstA h.un)
theorem we_tupA {x1} (h : Wr (PA X es t)) : Wr (PE X (.Tuple es x1 pos) (tTupA t)) := .mk (pe_tupA h.un)
theorem wps_nil : Wr (PPs X pos [] [] []) := .mk pps_nil
theorem wps_cons {k v : Expr} {ks : List (Option Expr)} {vs : List Expr} {tk tv : TE} {trs : List (TE × TE)} (hk : Wr (PE X k tk)) (hv : Wr (PE X v tv)) (hr : Wr (PPs X pos ks vs trs)) : Wr (PPs X pos (some k :: ks) (v :: vs) ((tk, tv) :: trs)) := .mk (pps_cons hk.un hv.un hr.un)
theorem we_dispA {keys : List (Option Expr)} {values : List Expr} {trs : List (TE × TE)} (h : Wr (PPs X pos keys values trs)) (hall : keys.all (·.isSome) = true) (hl : keys.length = values.length) (h0 : keys ≠ []) (h15 : keys.length ≤ 15) : Wr (PE X (.Dict keys values pos) (tDispA trs)) := .mk (pe_dispA h.un hall hl h0 h15)
theorem wo_some (h : Wr (PE X e te)) : Wr (PO X (some e) (tPart te)) := .mk (po_some h.un)
theorem we_slice {lo hi : Option Expr} {tl th : TO} {p2 : Pos} {r : V → Option Int → Option Int → Hp → VK → Prop} (hr : SlR X r) (he : Wr (PE X e te)) (hl : Wr (PO X lo tl)) (hu : Wr (PO X hi th)) : Wr (PE X (.Subscript e (.Slice lo hi none p2) pos) (tSl r te tl th)) := .mk (pe_slice hr he.un hl.un hu.un)
theorem we_ix {r : R2} (hr : IxR X r) (ha : Wr (PE X a ta)) (hb : Wr (PE X b tb)) (hs : PlainIx b) : Wr (PE X (.Subscript a b pos) (tOp r ta tb)) := .mk (pe_ix hr ha.un hb.un hs)
theorem we_dget (hu : X.A.units + 1 < cLine) (ho : Wr (PE X a ta)) (hi : Wr (PE X b tb)) (hs : NoSl b) : Wr (PE X (.Subscript a b pos) (tDGet ta tb)) := .mk (pe_dget hu ho.un hi.un hs)
theorem we_lc {elt tg iter : Expr} {ifs : List Expr} {scope : Scope} {own : List (Str × Nat)} {wi : TI} {g : TG} {tt : TT} {te : TE} (hc : X.calm = true) (hN : X.N.Nodup) (hi : Wr (PI X tg iter wi)) (ok : BlkOk X.N X.env.scope scope own)
    (hg : ∀ (s : Shared) (H : Hp) (C : Addr) (cl : List (Str × Addr)) (fp : List Addr), Wr (PG (X.blk s H scope (compEnvC scope cl C X.env) fp) tg g)) (ht : ∀ (s : Shared) (H : Hp) (C : Addr) (cl : List (Str × Addr)) (fp : List Addr), Wr (PTs (X.blk s H scope (compEnvC scope cl C X.env) fp) ifs tt))
    (he : ∀ (s : Shared) (H : Hp) (C : Addr) (cl : List (Str × Addr)) (fp : List Addr), Wr (PE (X.blk s H scope (compEnvC scope cl C X.env) fp) elt te)) (hs : ∀ x, foldedSetIterable iter X.env x = pure x := by intro _; rfl) :
    Wr (PE X (.ListComp elt [⟨tg, iter, ifs, 0⟩] scope pos) (tLc wi g tt te (own.map (·.2)))) := .mk (pe_lc hc hN hi.un ok (fun s H C cl fp => (hg s H C cl fp).un) (fun s H C cl fp => (ht s H C cl fp).un) (fun s H C cl fp => (he s H C cl fp).un) hs)
theorem we_bm0 {T id : String} {name : Str} {r : V → List V → Hp → VK → Prop} (pa : PlainAttrs T) (slot : Slot T name id) (hty : typeOf (.builtin id) = pure (.type "method_descriptor")) (hm : MtR X id r) (ho : Wr (PE X o to))
    (hbase : attributeBase o name X.env (eval o X.env) = eval o X.env := by rfl) (hline : (apos.endLine == cpos.line) = true := by rfl) : Wr (PE X (.Call (.Attribute o name apos) [] [] cpos) (tBM0 X.K T r to)) := .mk (pe_bm0 pa slot hty hm ho.un hbase hline)
theorem we_bm {T id : String} {name : Str} {r : V → List V → Hp → VK → Prop} (pa : PlainAttrs T) (slot : Slot T name id) (hty : typeOf (.builtin id) = pure (.type "method_descriptor")) (hm : MtR X id r) (ho : Wr (PE X o to)) (ha : Wr (PA X (e :: es) t))
    (hbase : attributeBase o name X.env (eval o X.env) = eval o X.env := by rfl)
    (hfew : ((backTo cpos (starEach (e :: es) X.env)).all (fun x => !x.1) && (backToKw cpos (keywordEach [] X.env)).all (fun x => x.1.isSome)
      && decide ((e :: es).length + ([] : List Keyword).length + (if ([] : List Keyword).isEmpty then 0 else 1) < 30)) = true := by rfl)
    (hline : (apos.endLine == cpos.line) = true := by rfl) (hs : starEach (e :: es) X.env = (false, eval e X.env) :: starEach es X.env := by rfl) (hplain : (backTo cpos (starEach es X.env)).any (·.1) = false := by rfl) :
    Wr (PE X (.Call (.Attribute o name apos) (e :: es) [] cpos) (tBM X.K T r to t)) := .mk (pe_bm pa slot hty hm ho.un ha.un hbase hfew hline hs hplain)
theorem we_callB {id : String} {r : List V → Hp → VK → Prop} {x : Str} (hc : CallR X (.builtin id) r) (hg : Gl X x) (hm : X.mg x = none) (hv : bootBuiltins x = some (.builtin id)) (ha : Wr (PA X (e :: es) t)) (hn : x ≠ "__name__" := by decide) (hdb : (x == ("__debug__" : Str)) = false := by decide)
    (he : starEach (e :: es) X.env = (false, eval e X.env) :: starEach es X.env := by rfl) (hpl : (backTo pos (starEach es X.env)).any (·.1) = false := by rfl) : Wr (PE X (.Call (.Name x p) (e :: es) [] pos) (tCB r t)) := .mk (pe_callB hc hg hm hv ha.un hn hdb he hpl)
theorem we_callTy {T : String} {r : List V → Hp → VK → Prop} {x : Str} (hc : CallR X (.type T) r) (hg : Gl X x) (hm : X.mg x = none) (hv : bootBuiltins x = some (.type T)) (ha : Wr (PA X (e :: es) t)) (hn : x ≠ "__name__" := by decide) (hdb : (x == ("__debug__" : Str)) = false := by decide)
    (he : starEach (e :: es) X.env = (false, eval e X.env) :: starEach es X.env := by rfl) (hpl : (backTo pos (starEach es X.env)).any (·.1) = false := by rfl) : Wr (PE X (.Call (.Name x p) (e :: es) [] pos) (tCB r t)) := .mk (pe_callTy hc hg hm hv ha.un hn hdb he hpl)
theorem we_cal {k : Nat} {x : Str} {ps : List Str} {sp : Sp} (C : Cal X.prog X.w X.K X.mg X.base k x ps sp) (hr : Room k X.A) (hg : Gl X x) (ha : Wr (PA X (e :: es) t)) (hdb : (x == ("__debug__" : Str)) = false := by decide)
    (he : starEach (e :: es) X.env = (false, eval e X.env) :: starEach es X.env := by rfl) (hpl : (backTo pos (starEach es X.env)).any (·.1) = false := by rfl) : Wr (PE X (.Call (.Name x p) (e :: es) [] pos) (tCall sp [] E0 t)) := .mk (pe_cal C hr hg ha.un hdb he hpl)
theorem wk_nil : Wr (PK X [] tNil) := .mk pk_nil
theorem wk_cons {nm : Option Str} {kpos : Pos} {kws : List Keyword} (ha : Wr (PE X e te)) (hr : Wr (PK X kws t)) : Wr (PK X (⟨nm, e, kpos⟩ :: kws) (tCons te t)) := .mk (pk_cons ha.un hr.un)
/-! tests -/
theorem wt_not (ha : Wr (PT X a tA)) : Wr (PT X (.UnaryOp .Not a pos) (tNot tA)) := .mk (pt_not ha.un)
theorem wt_cmpR {op : CmpOp} {r : R2} (ho : OpR X (compareOp op) r) (ha : Wr (PE X a ta)) (hb : Wr (PE X b tb)) (hm : behindInMarks op b = false) : Wr (PT X (.Compare a [op] [b] pos) (tTest (tOp r ta tb))) := .mk (pt_cmpR ho ha.un hb.un hm)
theorem wt_val (h : Wr (PE X e te)) (he : ∀ whole, isTrue e X.env whole = (do let v ← whole; standAt e.pos; holding [v] (truthy v)) := by intro _; rfl) : Wr (PT X e (tB te)) := .mk (pt_val h.un he)
/-- a value's truth -/
def tTru (K : PySem.W.Frag) (te : TE) : TT := fun σ H Q => te σ H fun x H' => ∃ k, TruV K x H' k ∧ Q k H'
theorem ww_and (ha : Wr (PT X a tA)) (hb : Wr (PW X (.BoolOp .And (b :: rest) pos) tB')) : Wr (PW X (.BoolOp .And (a :: b :: rest) pos) (tAnd tA tB')) := .mk (pw_and ha.un hb.un)
theorem ww_and1 (ha : Wr (PT X a tA)) : Wr (PW X (.BoolOp .And [a] pos) tA) := .mk (pw_and1 ha.un)
theorem ww_or (ha : Wr (PT X a tA)) (hb : Wr (PW X (.BoolOp .Or (b :: rest) pos) tB')) : Wr (PW X (.BoolOp .Or (a :: b :: rest) pos) (tOr tA tB')) := .mk (pw_or ha.un hb.un)
theorem ww_or1 (ha : Wr (PT X a tA)) : Wr (PW X (.BoolOp .Or [a] pos) tA) := .mk (pw_or1 ha.un)
theorem ww_pt (h : Wr (PW X e tA)) : Wr (PT X e tA) := .mk (PW.pt h.un)
theorem wts_nil : Wr (PTs X [] tYes) := .mk pts_nil
theorem wts_one (h : Wr (PT X c tA)) : Wr (PTs X [c] tA) := .mk (pts_one h.un)
/-! targets, what is walked -/
theorem wg_name {i : Nat} {x : Str} (hN : X.N.Nodup) (hi : X.N[i]? = some x) (hx : Loc X.env.scope x) (hf : X.fn x = true ∨ X.env.scope.names.lookup x = some .local := by first | exact .inl rfl | exact .inr rfl | assumption) : Wr (PG X (.Name x pos) (gName i)) := .mk (pg_name hN hi hx hf)
theorem wgs_nil : Wr (PGs X [] gNil) := .mk pgs_nil
theorem wgs_cons {t : TG} {u : TGs} (h1 : Wr (PG X e t)) (h2 : Wr (PGs X es u)) (hs : (assignEach (e :: es) X.env).map (·.2) = assign e X.env :: (assignEach es X.env).map (·.2) := by rfl) : Wr (PGs X (e :: es) (gCons t u)) := .mk (pgs_cons h1.un h2.un hs)
theorem wg_tup {k : Nat} {t : TGs} {n : Nat} (hc : X.calm = true) (h : Wr (PGs X es t)) (hn : (assignEach es X.env).length = n := by rfl) (hst : (assignEach es X.env).findIdx? (·.1) = none := by rfl) : Wr (PG X (.Tuple es k pos) (gTup X.K n t)) := .mk (pg_tup hc h.un hn hst)
theorem wg_sub {t : TSet} (ho : Wr (PE X a ta)) (hi : Wr (PE X b tb)) (hs : PSet X t)
    (ha : ∀ v, assign (.Subscript a b pos) X.env v = (do
      let ov ← holding [v] (eval a X.env)
      let iv ← holding [v, ov] (eval b X.env)
      standAt pos
      holding [v, ov, iv] (setItem ov iv v)
      release [v, ov, iv] []) := by intro _; rfl) : Wr (PG X (.Subscript a b pos) (gSub ta tb t)) := .mk (pg_sub ho.un hi.un hs ha)
theorem wi_list {tg : Expr} (hl : Wr (PE X e te)) : Wr (PI X tg e (iList X.K te)) := .mk (pi_list hl.un)
theorem wi_range1 {tg : Expr} (hg : Gl X "range") (hm : X.mg "range" = none) (ha : Wr (PA X [a] t)) (hs : starEach [a] X.env = [(false, eval a X.env)] := by rfl) : Wr (PI X tg (.Call (.Name "range" p) [a] [] pos) (iRng1 t)) := .mk (pi_range1 hg hm ha.un hs)
theorem wi_range2 {tg : Expr} (hg : Gl X "range") (hm : X.mg "range" = none) (ha : Wr (PA X [a, b] t)) (hs : starEach [a, b] X.env = [(false, eval a X.env), (false, eval b X.env)] := by rfl) (hs2 : starEach [b] X.env = [(false, eval b X.env)] := by rfl) : Wr (PI X tg (.Call (.Name "range" p) [a, b] [] pos) (iRng2 t)) := .mk (pi_range2 hg hm ha.un hs hs2)
theorem wi_enum {tpos : Pos} {elts : List Expr} {kk : Nat} (hg : Gl X "enumerate") (hm : X.mg "enumerate" = none) (ha : Wr (PA X [e] t)) (hs : starEach [e] X.env = [(false, eval e X.env)] := by rfl) : Wr (PI X (.Tuple elts kk tpos) (.Call (.Name "enumerate" p) [e] [] pos) (iEnum X.K t)) := .mk (pi_enum hg hm ha.un hs)
end
section
variable {X : Cx} {e : Expr} {te : TE} {pos pos' : Pos} {t u : TS} {st : Stmt} {rest : List Stmt}
/-! statements -/
theorem wss_nil : Wr (PSs X [] tNext) := .mk pss_nil
theorem wss_cons (h1 : Wr (PS X st t)) (h2 : Wr (PSs X rest u)) : Wr (PSs X (st :: rest) (tSeq t u)) := .mk (pss_cons h1.un h2.un)
theorem wss_one (h1 : Wr (PS X st t)) : Wr (PSs X [st] t) := .mk (pss_one h1.un)
theorem ws_ret (he : Wr (PE X e te)) : Wr (PS X (.Return (some e) pos) (tRet te)) := .mk (ps_ret he.un)
theorem ws_expr (he : Wr (PE X e te)) (hs : swapsWith e none pos.line X.env = pure false := by rfl) : Wr (PS X (.Expr e pos) (tDrop te)) := .mk (ps_expr he.un hs)
theorem ws_if {c : Expr} {a b : List Stmt} {tc : TT} (hc : Wr (PT X c tc)) (ha : Wr (PSs X a t)) (hb : Wr (PSs X b u)) : Wr (PS X (.If c a b pos) (tIfS tc t u)) := .mk (ps_if hc.un ha.un hb.un)
theorem ws_for {tg iter : Expr} {body : List Stmt} {wi : TI} {g : TG} (hc : X.calm = true) (hi : Wr (PI X tg iter wi)) (hg : Wr (PG X tg g)) (hb : Wr (PSs X body t)) (hp : PassesOwn (model X.prog X.w) X.A X.env X.xe := by exact PassesOwn.never)
    (hs : ∀ x, foldedSetIterable iter X.env x = pure x := by intro _; rfl) : Wr (PS X (.For tg iter body [] pos) (tFor wi g t)) := .mk (ps_for hp hc hi.un hg.un hb.un hs)
theorem ws_set {i : Nat} {x : Str} (hN : X.N.Nodup) (hi : X.N[i]? = some x) (hx : Loc X.env.scope x) (he : Wr (PE X e te)) (hs : swapsWith e (some (.Name x pos')) pos.line X.env = pure false := by rfl) (hf : X.fn x = true ∨ X.env.scope.names.lookup x = some .local := by first | exact .inl rfl | exact .inr rfl | assumption) :
    Wr (PS X (.Assign [.Name x pos'] e pos) (tAsg te (gName i))) := .mk (ps_set hN hi hx he.un hs hf)
theorem ws_setLc {i : Nat} {y : Str} {py : Pos} {elt tg iter : Expr} {ifs : List Expr} {scope : Scope} {own : List (Str × Nat)} {spos : Pos} {wi : TI} {g : TG} {tt : TT} (hc : X.calm = true) (hN : X.N.Nodup) (hy : X.N[i]? = some y) (hyl : X.env.scope.names.lookup y = some .local)
    (hsw : swapsWith (.ListComp elt [⟨tg, iter, ifs, 0⟩] scope pos) (some (.Name y py)) spos.line X.env = pure true) (hi : Wr (PI X tg iter wi)) (ok : BlkOk X.N X.env.scope scope own)
    (hg : ∀ (s : Shared) (H : Hp) (C : Addr) (cl : List (Str × Addr)) (fp : List Addr), Wr (PG (X.blk s H scope (compEnvC scope cl C X.env) fp) tg g)) (ht : ∀ (s : Shared) (H : Hp) (C : Addr) (cl : List (Str × Addr)) (fp : List Addr), Wr (PTs (X.blk s H scope (compEnvC scope cl C X.env) fp) ifs tt))
    (he : ∀ (s : Shared) (H : Hp) (C : Addr) (cl : List (Str × Addr)) (fp : List Addr), Wr (PE (X.blk s H scope (compEnvC scope cl C X.env) fp) elt te)) (hs : ∀ x, foldedSetIterable iter X.env x = pure x := by intro _; rfl) :
    Wr (PS X (.Assign [.Name y py] (.ListComp elt [⟨tg, iter, ifs, 0⟩] scope pos) spos) (tAsg (tLc wi g tt te (own.map (·.2))) (gName i))) := .mk (ps_setLc hc hN hy hyl hsw hi.un ok (fun s H C cl fp => (hg s H C cl fp).un) (fun s H C cl fp => (ht s H C cl fp).un) (fun s H C cl fp => (he s H C cl fp).un) hs)
theorem ws_dput {o i value : Expr} {td ty tv : TE} (hu : X.A.units + 1 < cLine) (ho : Wr (PE X o td)) (hi : Wr (PE X i ty)) (hv : Wr (PE X value tv)) (hs : swapsWith value (some (.Subscript o i pos')) pos.line X.env = pure false) : Wr (PS X (.Assign [.Subscript o i pos'] value pos) (sDPut td ty tv)) := .mk (ps_dput hu ho.un hi.un hv.un hs)
theorem ws_par {i j : Nat} {x y : Str} {a b : Expr} {ta : TA} {px py pt : Pos} {kt k2 pt2} (hc : X.calm = true) (hN : X.N.Nodup) (hi : X.N[i]? = some x) (hj : X.N[j]? = some y) (hij : i ≠ j)
    (hx : X.env.scope.names.lookup x = some .local) (hy : X.env.scope.names.lookup y = some .local) (ha : Wr (PA X [a, b] ta)) (hw : swappedStores [.Tuple [.Name x px, .Name y py] kt pt] (.Tuple [a, b] k2 pt2) X.env = pure (some [x, y]))
    (hs : swapsWithSole [.Tuple [.Name x px, .Name y py] kt pt] (.Tuple [a, b] k2 pt2) pos.line X.env = pure false := by rfl) : Wr (PS X (.Assign [.Tuple [.Name x px, .Name y py] kt pt] (.Tuple [a, b] k2 pt2) pos) (tPar i j ta)) := .mk (ps_par hc hN hi hj hij hx hy ha.un hw hs)
theorem ws_asg {tg : Expr} {g : TG} (he : Wr (PE X e te)) (hg : Wr (PG X tg g)) (hs : swapsWithSole [tg] e pos.line X.env = pure false := by rfl) (hw : swappedStores [tg] e X.env = pure none := by rfl)
    (h1 : (assignEach [tg] X.env).map (·.2) = [assign tg X.env] := by rfl) : Wr (PS X (.Assign [tg] e pos) (tAsg te g)) := .mk (ps_asg he.un hg.un hs hw h1)
end
/-- THE RULE for a def, behind the lid -/
theorem Fun.okW {P : Program} {w : World} {K : PySem.W.Frag} {mg : Str → Option Value} {base : Heap} {x qual : Str} {st : Stmt} {f : Addr} {fd : FuncData} {N ps : List Str} {k : Nat} {sp : Sp} (F : Fun K x qual st f fd) (S : FnScope N ps (defScope st)) (len : ∀ vs H Q E, sp vs H Q E → vs.length = ps.length)
    (hbody : ∀ (cdv : Value) (A : Around) (outer : List Env) (s : Shared) (H : Hp) (vs : List V) (Q : VK) (E : XK), Room k (A.deeper (envOfC qual (defScope st) s.heap.objs.size f cdv)) → sp vs H Q E →
      ∃ t, Wr (PSs (cxOf CX0 P w K mg base N qual (defScope st) f cdv A outer s H E).nox (defBody st) t) ∧ t { nx := fun _ H' => Q .non H', rt := Q } (start N vs) H) : FnOk P w K mg base CX0 (k + 1) f fd ps sp :=
  F.ok S len fun cdv A outer s H vs Q E hr h => by
    obtain ⟨t, h1, h2⟩ := hbody cdv A outer s H vs Q E hr h
    exact ⟨t, h1.un, h2⟩
end L2

set_option Elab.async false
set_option linter.all false
set_option maxRecDepth 100000
/-! never; ints of any size; functions with defaults; calls by places and names; methods; own == -/
namespace L2
open PySem PySem.Spec PyProof.Rows
def tNeverE : TE := fun _ _ _ => False
theorem ws_never {X : Cx} {st : Stmt} : Wr (PS X st tNever) := .mk ps_never
section
variable {X : Cx}
def CDivB (_ j : Int) : Prop := 0 < j ∧ j < 2 ^ 8000
theorem CDivB.log {i j : Int} (h : CDivB i j) : j.natAbs.log2 < 9000 := by
  obtain ⟨h0, h1⟩ := h
  have h2 : j.natAbs ≠ 0 := by omega
  have h3 : j.natAbs < 2 ^ 8000 := by
    have e : ((2 ^ 8000 : Nat) : Int) = (2 : Int) ^ 8000 := by rw [Int.natCast_pow]; rfl
    rw [← e] at h1
    generalize (2 : Nat) ^ 8000 = B at *
    omega
  have := (Nat.log2_lt h2).mpr h3
  omega
theorem op_fdivB : OpR X (binaryOp .FloorDiv) (rI CDivB fun i j => .int (i / j)) := opI fun i j _ _ _ _ _ hc q => by
  have h1 : (0 : Int) < j := hc.1
  refine floordiv_int (by omega) ?_ (.inl (PyProof.noPylong_of_log2 (CDivB.log hc)))
  rw [Int.fdiv_eq_ediv_of_nonneg i (by omega)]
  exact q
theorem call_divmodB : CallR X (.builtin "divmod") (fun xs H Q => ∃ i j, xs = [.int i, .int j] ∧ CDivB i j ∧ Born H (.tup [.int (i / j), .int (i % j)]) Q) := by
  intro pins s σ H xs us Q I r h
  obtain ⟨i, j, rfl, hc, q⟩ := h
  have h1 : (0 : Int) < j := hc.1
  obtain ⟨u, w', rfl, ⟨t, rfl⟩, ⟨t', rfl⟩⟩ := vals2 r
  refine divmod_int (by omega) ?_ (.inl (PyProof.noPylong_of_log2 (CDivB.log hc)))
  rw [Int.fdiv_eq_ediv_of_nonneg i (by omega), Int.fmod_eq_emod_of_nonneg i (by omega)]
  have hn : H s.heap.objs.size = none := I.hok.fresh (Nat.le_refl _)
  refine ⟨.ref s.heap.objs.size, _, ?_, rfl, q.at hn⟩
  refine I.laid (fun b o e => Heap.get?_push_of_some _ e) (Nat.le_refl _) ⟨by simp only [List.length_cons, List.length_nil]; rw [sizeLine_eq]; decide, [.int (i / j) s.toks, .int (i % j) (s.toks + 1)], .cons ⟨_, rfl⟩ (.cons ⟨_, rfl⟩ .nil), ?_⟩
  exact ⟨_, Heap.get?_push_size s.heap rfl, rfl, 0, rfl⟩
def CShl (i j : Int) : Prop := 0 ≤ j ∧ (Builtin.Int.intBits i : Int) + j ≤ 2 ^ 27
/-! isinstance(x, C), C a class of the text -/
theorem call_isiC : CallR X (.builtin "isinstance") (fun xs H Q => ∃ x C t b, xs = [x, .ref C] ∧ TyOf X.K H x t ∧ PySem.W.kitOne X.K t (.ref C) = some b ∧ Q (.bl b) H) := by
  intro pins s σ H xs us Q I r h
  obtain ⟨x, C, t, b, rfl, ty, e, q⟩ := h
  obtain ⟨u, w', rfl, ru, rw'⟩ := vals2 r
  cases (show w' = Value.ref C from rw')
  exact isinst_ok I ru ty e fun tk => ⟨.bl b, H, I.tok tk, rfl, q⟩
/-- isinstance(x, tuple), x a tuple of the heap or of the text's own -/
theorem call_isiT : CallR X (.builtin "isinstance") (fun xs H Q => ∃ a ys, xs = [.ref a, .ty "tuple"] ∧ SqT X.K H a ys ∧ Q (.bl true) H) := by
  intro pins s σ H xs us Q I r h
  obtain ⟨a, ys, rfl, hs, q⟩ := h
  obtain ⟨u, w', rfl, ru, rw'⟩ := vals2 r
  cases (show w' = Value.type "tuple" from rw')
  cases ru
  obtain ⟨its, r', pl, hz⟩ := I.tuple hs
  obtain ⟨o, h1, h2, _⟩ := pl
  exact PySem.W.kia_one PySem.W.kitx_tuple I.kIn ⟨o, h1, h2⟩ (b := true) (by kernel_rfl) (fun z => nomatch z) fun tk => ⟨.bl true, H, I.tok tk, rfl, q⟩
end
/-! ### a def with defaults -/
structure FunD (K : PySem.W.Frag) (x qual : Str) (st : Stmt) (f : Addr) (fd : FuncData) (dV kV : Value) : Prop where
  ex : ∃ (oc : Value) (od : Option Addr) (doc pm : Value) (an : Option Addr) (cdv ct : Value) (osl : Array (Option Value)),
    fd = PySem.W.fnOf x qual (defArgs st) (defBody st) (defScope st) dV kV doc pm an cdv ct ∧ K.lookup f = some ⟨oc, od, .func fd, osl⟩ ∧ PySem.W.codeIn K cdv qual = true
  kp : PySem.W.keepIn K (.ref f) = true
theorem funD_mk {K : PySem.W.Frag} {x qual : Str} {st : Stmt} {f : Addr} {oc : Value} {od an : Option Addr} {osl : Array (Option Value)} {dV kV doc pm cdv ct : Value} (l : K.lookup f = some ⟨oc, od, .func (PySem.W.fnOf x qual (defArgs st) (defBody st) (defScope st) dV kV doc pm an cdv ct), osl⟩)
    (c : PySem.W.codeIn K cdv qual = true) (k : PySem.W.keepIn K (.ref f) = true) : FunD K x qual st f (PySem.W.fnOf x qual (defArgs st) (defBody st) (defScope st) dV kV doc pm an cdv ct) dV kV := ⟨⟨oc, od, doc, pm, an, cdv, ct, osl, rfl, l, c⟩, k⟩
theorem FunD.okW {P : Program} {w : World} {K : PySem.W.Frag} {mg : Str → Option Value} {base : Heap} {x qual : Str} {st : Stmt} {f : Addr} {fd : FuncData} {dV kV : Value} {N ps : List Str} {k : Nat} {sp : Sp} (F : FunD K x qual st f fd dV kV) (S : FnScope N ps (defScope st)) (len : ∀ vs H Q E, sp vs H Q E → vs.length = ps.length)
    (hbody : ∀ (cdv : Value) (A : Around) (outer : List Env) (s : Shared) (H : Hp) (vs : List V) (Q : VK) (E : XK), Room k (A.deeper (envOfC qual (defScope st) s.heap.objs.size f cdv)) → sp vs H Q E →
      ∃ t, Wr (PSs (cxOf CX0 P w K mg base N qual (defScope st) f cdv A outer s H E).nox (defBody st) t) ∧ t { nx := fun _ H' => Q .non H', rt := Q } (start N vs) H) : FnOk P w K mg base CX0 (k + 1) f fd ps sp := by
  obtain ⟨oc, od, doc, pm, an, cdv, ct, osl, rfl, lk, hcd⟩ := F.ex
  refine fn_of lk hcd S len fun A outer s H vs Q E hr hsp => ?_
  obtain ⟨t, h, q⟩ := hbody cdv A outer s H vs Q E hr hsp
  exact ⟨t, h.un.nox, q⟩
/-! ### calls by places and names -/
section
variable {X : Cx} {k : Nat} {f C : Addr} {fd : FuncData} {ps ks : List Str} {sp : Sp} {x m : Str} {p pos apos : Pos} {e o : Expr} {es : List Expr} {kws : List Keyword} {ta : TE} {t tk : TA} {g : List Value → List Value → List Value} {gV : List V → List V → List V}
theorem we_calP (C : CalK X.prog X.w X.K X.mg X.base k x ps ks gV sp) (hr : Room k X.A) (hg : Gl X x) (ha : Wr (PA X (e :: es) t)) (hkw : Wr (PK X kws tk)) (hall : (backToKw pos (keywordEach kws X.env)).all (·.1.isSome) = true := by rfl)
    (hks : (backToKw pos (keywordEach kws X.env)).filterMap (·.1) = ks := by rfl) (hdb : (x == ("__debug__" : Str)) = false := by decide) (he : starEach (e :: es) X.env = (false, eval e X.env) :: starEach es X.env := by rfl)
    (hpl : ((backTo pos (starEach (e :: es) X.env)).any (·.1) || (backToKw pos (keywordEach kws X.env)).any (·.1.isNone)) = false := by rfl) : Wr (PE X (.Call (.Name x p) (e :: es) kws pos) (tCallK sp gV E0 t tk)) := by
  obtain ⟨f, fd, g, F, hm, hk, hb⟩ := C.ex
  exact .mk (pe_callK F hr hg hm hk hb pass0 ha.un hkw.un hall hks hdb he hpl)
/-- f(e, ..), defaults left out -/
theorem we_calD (C : CalK X.prog X.w X.K X.mg X.base k x ps [] gV sp) (hr : Room k X.A) (hg : Gl X x) (ha : Wr (PA X (e :: es) t)) (hdb : (x == ("__debug__" : Str)) = false := by decide) (he : starEach (e :: es) X.env = (false, eval e X.env) :: starEach es X.env := by rfl)
    (hpl : (backTo pos (starEach es X.env)).any (·.1) = false := by rfl) : Wr (PE X (.Call (.Name x p) (e :: es) [] pos) (tCallK sp gV E0 t tNil)) := by
  obtain ⟨f, fd, g, F, hm, hk, hb⟩ := C.ex
  refine .mk ?_
  intro pins s σ H Q I h
  refine wpAny_Call_Name_kw (ld_glob I hg hm ?_ hdb)
  refine PySem.W.callWith_K (h₀ := X.base) I.ok.mod.kin hk (thn (ha.un pos pins s σ H _ I h) fun us s1 ⟨vs, H1, I1, r, q⟩ => ⟨I1.kIn, ?_⟩) he hpl
  exact run_fnk (us := us) (ws := []) (zs := []) F hr hb pass0 I1 r .nil q
/-- C(..) by places and names -/
def tMakeK (C : Addr) (sp : Sp) (gV : List V → List V → List V) (E : XK) (t tk : TA) : TE := fun σ H Q => t σ H fun vs H1 => tk σ H1 fun zs H2 => ∀ x dx, H2 x = none → H2 dx = none → dx ≠ x →
  sp (gV (.ref x :: vs) zs) (upd (upd H2 dx (.own x)) x (.ins C dx [])) (fun v H3 => v = .non ∧ Q (.ref x) H3) E
theorem run_makeK {CX : CXT} {E : XK} {pins : List (Addr × Obj)} {σ : St} {H : Hp} {s : Shared} {Q : VK} {us ws : List Value} {vs zs : List V} (M : Mk X.K C f) (F : FnOk X.prog X.w X.K X.mg X.base CX k f fd ps sp) (hr : Room (k + 1) X.A) (hb : KBinds X.K fd ps ks g gV)
    (hx : Passes CX X E) (I : Inv X pins σ H s) (r : Vals vs us) (rz : Vals zs ws)
    (h : ∀ x dx, H x = none → H dx = none → dx ≠ x → sp (gV (.ref x :: vs) zs) (upd (upd H dx (.own x)) x (.ins C dx [])) (fun v H2 => v = .non ∧ Q (.ref x) H2) E) :
    wpAny (model X.prog X.w) X.A (call (.ref C) us (ks.zip ws)) (EP X pins σ Q) X.xe s := by
  have hq := h (s.heap.objs.size + 1) s.heap.objs.size (I.hok.fresh (Nat.le_succ _)) (I.hok.fresh (Nat.le_refl _)) (Nat.ne_of_lt (Nat.lt_succ_self _))
  have I2 := Inv.made (C := C) I
  have r2 : Vals (gV (V.ref (s.heap.objs.size + 1) :: vs) zs) (g (Value.ref (s.heap.objs.size + 1) :: us) ws) := hb.rel (.cons rfl r) rz
  have hl : (g (Value.ref (s.heap.objs.size + 1) :: us) ws).length = ps.length := by
    have e := r2.length
    rw [F.len _ _ _ _ hq] at e
    exact e.symm
  refine wpAny_call (make_map (f := f) I.kIn M.makes M.init (beq_iff_eq.mp M.fn) (codeAny_mono (F.run _ X.stack _ _ ⟨Value.ref (s.heap.objs.size + 1) :: us, ks.zip ws⟩ (g (Value.ref (s.heap.objs.size + 1) :: us) ws) _ _ E (hr.make C us (ks.zip ws))
    (I2.env0.make C us (ks.zip ws)) (hb.to _ (Value.ref (s.heap.objs.size + 1) :: us) ws I2.kIn hl) r2 hq) fun r s' hq' => ?_))
  cases r with
  | error e => exact hx pins σ _ _ e s' I2 hq'
  | ok fl =>
    cases fl with
    | ret u =>
      obtain ⟨v, H', I3, rv, ev, q3⟩ := I2.after hq'
      subst ev
      exact ⟨rv, ⟨V.ref (s.heap.objs.size + 1), H', I3, rfl, q3⟩⟩
    | next => exact False.elim hq'
    | brk => exact False.elim hq'
    | cont => exact False.elim hq'
/-- a class of the text, made by places and the names ks -/
structure CalM (P : Program) (w : World) (K : PySem.W.Frag) (mg : Str → Option Value) (base : Heap) (k : Nat) (x : Str) (C : Addr) (ps ks : List Str) (gV : List V → List V → List V) (sp : Sp) : Prop where
  ex : ∃ (f : Addr) (fd : FuncData) (g : List Value → List Value → List Value), Mk K C f ∧ FnOk P w K mg base CX0 k f fd ps sp ∧ mg x = some (.ref C) ∧ KBinds K fd ps ks g gV
theorem we_makeK (M : CalM X.prog X.w X.K X.mg X.base k x C ps ks gV sp) (hr : Room (k + 1) X.A) (hg : Gl X x) (ha : Wr (PA X (e :: es) t)) (hkw : Wr (PK X kws tk)) (hall : (backToKw pos (keywordEach kws X.env)).all (·.1.isSome) = true := by rfl)
    (hks : (backToKw pos (keywordEach kws X.env)).filterMap (·.1) = ks := by rfl) (hdb : (x == ("__debug__" : Str)) = false := by decide) (he : starEach (e :: es) X.env = (false, eval e X.env) :: starEach es X.env := by rfl)
    (hpl : ((backTo pos (starEach (e :: es) X.env)).any (·.1) || (backToKw pos (keywordEach kws X.env)).any (·.1.isNone)) = false := by rfl) : Wr (PE X (.Call (.Name x p) (e :: es) kws pos) (tMakeK C sp gV E0 t tk)) := by
  obtain ⟨f, fd, g, M, F, hm, hb⟩ := M.ex
  refine .mk ?_
  intro pins s σ H Q I h
  refine wpAny_Call_Name_kw (ld_glob I hg hm ?_ hdb)
  refine PySem.W.callWith_KW (h₀ := X.base) I.ok.mod.kin M.kp hall (thn (ha.un pos pins s σ H _ I h) fun us s1 ⟨vs, H1, I1, r, q⟩ => ?_) hpl he
  refine thn (hkw.un pos pins s1 σ H1 _ I1 q) fun ws s2 ⟨zs, H2, I2, rz, q2⟩ => ⟨I2.kIn, ?_⟩
  rw [hks]
  exact run_makeK M F hr hb pass0 I2 r rz q2
theorem we_makeD (M : CalM X.prog X.w X.K X.mg X.base k x C ps [] gV sp) (hr : Room (k + 1) X.A) (hg : Gl X x) (ha : Wr (PA X (e :: es) t)) (hdb : (x == ("__debug__" : Str)) = false := by decide) (he : starEach (e :: es) X.env = (false, eval e X.env) :: starEach es X.env := by rfl)
    (hpl : (backTo pos (starEach es X.env)).any (·.1) = false := by rfl) : Wr (PE X (.Call (.Name x p) (e :: es) [] pos) (tMakeK C sp gV E0 t tNil)) := by
  obtain ⟨f, fd, g, M, F, hm, hb⟩ := M.ex
  refine .mk ?_
  intro pins s σ H Q I h
  refine wpAny_Call_Name_kw (ld_glob I hg hm ?_ hdb)
  refine PySem.W.callWith_K (h₀ := X.base) I.ok.mod.kin M.kp (thn (ha.un pos pins s σ H _ I h) fun us s1 ⟨vs, H1, I1, r, q⟩ => ⟨I1.kIn, ?_⟩) he hpl
  exact run_makeK (us := us) (ws := []) (zs := []) M F hr hb pass0 I1 r .nil q
/-! ### methods -/
structure CalO (P : Program) (w : World) (K : PySem.W.Frag) (mg : Str → Option Value) (base : Heap) (k : Nat) (C : Addr) (m : Str) (ps : List Str) (sp : Sp) : Prop where
  ex : ∃ (f : Addr) (fd : FuncData), Cls K C ∧ Meth K C m f ∧ FnOk P w K mg base CX0 k f fd ps sp ∧ Binds K fd ps []
theorem we_meth0 {pl : Sem Bool} (M : CalO X.prog X.w X.K X.mg X.base k C m ps sp) (hr : Room k X.A) (ho : Wr (PE X o ta))
    (ht : eval (.Call (.Attribute o m apos) [] [] pos) X.env = (do
      let ov ← eval o X.env
      standAt apos.atName
      let (f, first) ← holding [ov] (getMethod ov m pl)
      callWith pos f first (backTo pos (starEach [] X.env)) (backToKw pos (keywordEach [] X.env))) := by rfl) :
    Wr (PE X (.Call (.Attribute o m apos) [] [] pos) (tMeth C m sp [] E0 ta tNil)) := by
  obtain ⟨f, fd, c, hm, F, hb⟩ := M.ex
  exact .mk (pe_meth0 (pl := pl) ho.un c hm F hr hb .nil pass0 ht)
theorem we_fld {f : Str} (he : Wr (PE X e ta)) (hb : attributeBase e f X.env (eval e X.env) = eval e X.env := by rfl) : Wr (PE X (.Attribute e f pos) (tFld X.K ta f)) := .mk (pe_fld he.un hb)
theorem ws_fld {f : Str} {value : Expr} {tv : TE} {pos' : Pos} (ha : Wr (PE X o ta)) (hv : Wr (PE X value tv)) (hs : swapsWith value (some (.Attribute o f pos')) pos.line X.env = pure false := by rfl) : Wr (PS X (.Assign [.Attribute o f pos'] value pos) (sFld X.K ta tv f)) := .mk (ps_fld ha.un hv.un hs)
end
end L2

set_option Elab.async false
set_option linter.all false
set_option maxRecDepth 100000
namespace L2
open PySem PySem.Spec PyProof.Rows
/-- what == and != of a class need: its own __eq__, no __ne__ -/
structure EqC (K : PySem.W.Frag) (C f : Addr) : Prop where
  eq : PySem.W.findIn K (.ref C) "__eq__" = some (some (.ref f))
  fn : PySem.W.isFn K (.ref f) = true
  ne : PySem.W.findIn K (.ref C) "__ne__" = some (some (.builtin "object.__ne__"))
  mr : PySem.W.mroIn K C (.type "object") = some true
section
variable {prog : Program} {w : World} {A : Around} {E : Value → Shared → Prop} {s : Shared} {K : PySem.W.Frag} {x y C f : Addr} {ox oy : Obj} {od od' : Option Obj}
theorem ifBound_B {M : Model} {name : Str} {id : String} {args : List Value} {Q : Option Value → Shared → Prop} (X : K.In s.heap) (I : PySem.W.InstAt s.heap x ox C od) (hs : PySem.W.findIn K (.ref C) name = some (some (.builtin id)))
    (hb : ∀ self, bindSpecial (.builtin id) self = pure (.builtin id, [self])) (h : wpAny M A (call (.builtin id) (.ref x :: args)) (fun v => Q (some v)) E s) : wpAny M A (callSpecialIfBound? (.ref x) name args) Q E s := by
  simp only [callSpecialIfBound?, bindSpecialIfBound?]
  refine wpAny_holding (wpAny_bind (wpAny_bind (wpAny_bind (I.type.here ((PySem.W.looks_findIn X hs).here ?_)))))
  refine wpAny_bind (wpAny_askSetting (wpAny_ite ?_))
  have fin : wpAny M A (call (.builtin id) ([.ref x] ++ args) >>= fun v => pure (some v)) Q E s := wpAny_bind (wpAny_mono h (fun v s' h' => wpAny_pure h') fun _ _ h' => h')
  split
  · exact wpAny_bind ((PySem.W.Looks.of_pure (hb _)).here (wpAny_pure (by exact fin)))
  · exact wpAny_tryCatch (wpAny_bind ((PySem.W.Looks.of_pure (hb _)).here (wpAny_pure (by exact fin))))
open Builtin in
theorem own_one {Q : Value → Shared → Prop} (hu : A.in1.units < cLine) (X : K.In s.heap) (I : PySem.W.InstAt s.heap x ox C od) (e : EqC K C f)
    (h : wpAny (model prog w) A.in1 (call (.ref f) [.ref x, .ref y]) (fun v s' => ∃ b, v = .bool b ∧ Q (.bool (!b)) s') E s) : wpAny (model prog w) A (call (.builtin "object.__ne__") [.ref x, .ref y]) Q E s := by
  refine wpAny_call (codeAny_call_builtin F.cmp_object.ne.plain F.cmpEntry_ne (PySem.W.check_slot F.cmpKind_ne F.cmpSplit_ne (I.type.andThen (PySem.W.looks_mroIn X e.mr)) (F.cmpArgs_ne _ _) ?_))
  unfold Builtin.«object.__ne__»
  refine wpAny_bind (m := slotArgs "__ne__" 1 _) (wpAny_pure ?_)
  refine wpAny_bind (m := cRoomFor _ _) (wpAny_cRoomFor hu ?_)
  refine wpAny_bind (m := callSpecialIfBound? (.ref x) (Str.ofString "__eq__") [.ref y]) (PySem.W.ifBound_K X I e.eq e.fn (wpAny_mono h (fun r s' hr => ?_) fun _ _ e => e))
  obtain ⟨b, rfl, hq⟩ := hr
  refine wpAny_bind (m := truthy (.bool b)) (wpAny_truthy_bool ?_)
  exact wpAny_pure hq
theorem own_ne {Q : Value → Shared → Prop} (hu : A.units + 1 < cLine) (X : K.In s.heap) (I : PySem.W.InstAt s.heap x ox C od) (J : PySem.W.InstAt s.heap y oy C od') (e : EqC K C f)
    (h : wpAny (model prog w) A.in1 (call (.ref f) [.ref x, .ref y]) (fun v s' => ∃ b, v = .bool b ∧ Q (.bool (!b)) s') E s) : wpAny (model prog w) A (compareOp .NotEq (.ref x) (.ref y)) Q E s := by
  unfold compareOp
  have one : wpAny (model prog w) A (tryCompare (.ref x) "__ne__" (.ref y)) (fun r s' => ∃ v, r = some v ∧ Q v s') E s := by
    unfold tryCompare
    refine wpAny_bind (ifBound_B X I e.ne F.cmp_object.ne.bind (own_one hu X I e (wpAny_mono h (fun v s' hv => ?_) fun _ _ e => e)))
    obtain ⟨b, rfl, q⟩ := hv
    exact ⟨b, rfl, wpAny_pure ⟨_, rfl, q⟩⟩
  show wpAny _ _ (richCompare .NotEq (.ref x) (.ref y)) _ _ _
  unfold richCompare
  simp only [oneThing_ref]
  refine wpAny_holding (wpAny_bind (wpAny_cRoomFor (Nat.lt_of_succ_lt hu) ?_))
  refine wpAny_bind (I.type.here (wpAny_bind (J.type.here ?_)))
  rw [show (Value.ref C != Value.ref C) = false from by simp]
  simp only [Bool.false_eq_true, if_false]
  refine wpAny_bind (wpAny_pure ?_)
  simp only [Bool.false_eq_true, if_false]
  refine wpAny_bind (wpAny_mono one (fun r s' z => ?_) fun _ _ e => e)
  obtain ⟨v, rfl, hq⟩ := z
  exact wpAny_pure hq
end
/-- x == y, x != y of two instances of the class at C, by its own __eq__ -/
def rEqO (C : Addr) (sp : Sp) : R2 := fun x y H Q => ∃ a b dx fs dx' fs', x = .ref a ∧ y = .ref b ∧ H a = some (.ins C dx fs) ∧ H b = some (.ins C dx' fs') ∧ sp [.ref a, .ref b] H (fun v H' => ∃ c, v = .bl c ∧ Q (.bl c) H') E0
def rNeO (C : Addr) (sp : Sp) : R2 := fun x y H Q => ∃ a b dx fs dx' fs', x = .ref a ∧ y = .ref b ∧ H a = some (.ins C dx fs) ∧ H b = some (.ins C dx' fs') ∧ sp [.ref a, .ref b] H (fun v H' => ∃ c, v = .bl c ∧ Q (.bl (!c)) H') E0
structure CalE (P : Program) (w : World) (K : PySem.W.Frag) (mg : Str → Option Value) (base : Heap) (k : Nat) (C : Addr) (ps : List Str) (sp : Sp) : Prop where
  ex : ∃ (f : Addr) (fd : FuncData), EqC K C f ∧ FnOk P w K mg base CX0 k f fd ps sp ∧ Binds K fd ps []
section
variable {X : Cx} {k : Nat} {C : Addr} {ps : List Str} {sp : Sp}
theorem op_neO (M : CalE X.prog X.w X.K X.mg X.base k C ps sp) (hr : Room (k + 1) X.A) : OpR X (compareOp .NotEq) (rNeO C sp) := by
  obtain ⟨f, fd, e, F, hb⟩ := M.ex
  intro pins s σ H x y v u Q I rx ry h
  obtain ⟨a, b, dx, fs, dx', fs', rfl, rfl, ha, hb', q⟩ := h
  cases rx
  cases ry
  obtain ⟨mA, O, _⟩ := ins_get I.hok ha
  obtain ⟨od, J, _⟩ := O.look
  obtain ⟨mA2, O2, _⟩ := ins_get I.hok hb'
  obtain ⟨od2, J2, _⟩ := O2.look
  have hl : ([Value.ref a, Value.ref b] ++ []).length = ps.length := (F.len _ _ _ _ q)
  refine own_ne (hu_of hr) I.kIn J J2 e ?_
  refine wpAny_call (codeAny_mono (F.run X.A.in1 X.stack s H ⟨[.ref a, .ref b], []⟩ [.ref a, .ref b] [.ref a, .ref b] _ E0 hr.in1 I.env0.in1 (hb s [.ref a, .ref b] I.kIn hl) (.cons rfl (.cons rfl .nil)) q) fun r s' hq => ?_)
  cases r with
  | error e => exact hq.elim
  | ok fl =>
    cases fl with
    | ret u =>
      obtain ⟨v, H1, I1, r1, c, e1, q1⟩ := I.after hq
      subst e1
      cases (show u = Value.bool c from r1)
      exact ⟨c, rfl, .bl (!c), H1, I1, rfl, q1⟩
    | next => exact False.elim hq
    | brk => exact False.elim hq
    | cont => exact False.elim hq
end
end L2

set_option Elab.async false
set_option linter.all false
set_option maxRecDepth 100000
namespace L2
open PySem PySem.Spec PyProof.Rows
/-! defaults: of places (a tuple of the text), of names (a dict of the text) -/
structure Dfl (K : PySem.W.Frag) (dV : Value) (items : List Value) : Prop where
  ex : ∃ (T : Addr) (o : Obj) (n : Nat), dV = .ref T ∧ K.lookup T = some o ∧ o.data = .seq items.toArray n
def kwGet (kV : Value) (n : Str) : Sem (Option Value) := match kV with
  | .ref d => nsGet d n
  | _ => pure none
structure KwD (K : PySem.W.Frag) (kV : Value) (n : Str) (v : Value) : Prop where
  at_ : ∃ d, kV = .ref d ∧ PySem.W.nsIn K d n = some (some v)
section
variable {M : Model} {A : Around} {E : Value → Shared → Prop} {s : Shared} {α β γ : Type}
theorem bd_ifF {c : Bool} {x y : Sem α} {Q : α → Shared → Prop} (h : c = false) (k : wpAny M A y Q E s) : wpAny M A (if c = true then x else y) Q E s := by
  subst h
  exact k
theorem bd_ifT {c : Bool} {x y : Sem α} {Q : α → Shared → Prop} (h : c = true) (k : wpAny M A x Q E s) : wpAny M A (if c = true then x else y) Q E s := by
  subst h
  exact k
theorem bd_cons {l r : List γ} {x : γ} {st : β} {f : γ → β → Sem (ForInStep β)} {Q : β → Shared → Prop} (hl : l = x :: r) (h : wpAny M A (f x st) (fun y s' => match y with | .yield st' => wpAny M A (forIn r st' f) Q E s' | .done st' => Q st' s') E s) : wpAny M A (forIn l st f) Q E s := by
  subst hl
  rw [List.forIn_cons]
  refine wpAny_bind (wpAny_mono h (fun y s' z => ?_) fun _ _ e => e)
  cases y with
  | done b => exact wpAny_pure z
  | yield b => exact z
theorem bd_nil {l : List γ} {st : β} {f : γ → β → Sem (ForInStep β)} {Q : β → Shared → Prop} (hl : l = []) (h : Q st s) : wpAny M A (forIn l st f) Q E s := by
  subst hl
  rw [List.forIn_nil]
  exact wpAny_pure h
end
theorem Dfl.go {K : PySem.W.Frag} {dV : Value} {items : List Value} (D : Dfl K dV items) {M : Model} {A : Around} {E : Value → Shared → Prop} {s : Shared} {Q : Option (Array Value) → Shared → Prop} (X : K.In s.heap) (h : Q (some items.toArray) s) : wpAny M A (seqItems? dV) Q E s := by
  obtain ⟨T, o, n, rfl, ho, hs⟩ := D.ex
  exact wpAny_seqItems (X _ _ ho) hs h
local macro_rules | `(tactic| walk_at "bd") => `(tactic| repeat' (first
  | with_reducible refine wpAny_pure ?_ | with_reducible refine wpAny_bind ?_ | with_reducible refine wpAny_rule ?_
  | with_reducible refine Dfl.go (by assumption) (by assumption) ?_ | with_reducible refine no_go ?_
  | with_reducible refine PySem.W.Looks.here (PySem.W.looks_nsIn (by assumption) (by assumption)) ?_
  | with_reducible refine bd_ifF rfl ?_ | with_reducible refine bd_ifT rfl ?_ | with_reducible refine bd_cons rfl ?_ | with_reducible refine bd_nil rfl ?_
  | assumption
  | dsimp only))
end L2

set_option Elab.async false
set_option linter.all false
set_option maxRecDepth 100000
/-! str of an own class; f-strings; list.count of texts; set of ints and its len -/
namespace L2
open PySem PySem.Spec PyProof.Rows
section
variable {prog : Program} {w : World} {A : Around} {E : Value → Shared → Prop} {s : Shared} {K : PySem.W.Frag} {x C f : Addr} {ox : Obj} {od : Option Obj}
open Builtin Builtin.Str in
theorem own_str {Q : Value → Shared → Prop} (hu : A.in1.in1.units < cLine) (X : K.In s.heap) (I : PySem.W.InstAt s.heap x ox C od) (e1 : PySem.W.findIn K (.ref C) "__str__" = some (some (.ref f))) (e2 : PySem.W.isFn K (.ref f) = true)
    (h : wpAny (model prog w) A.in1.in1 (call (.ref f) [.ref x]) (fun v s' => ∃ z t, v = .str z t ∧ Q v s') E s) : wpAny (model prog w) A (call (.type "str") [.ref x]) Q E s := by
  have inner : wpAny (model prog w) A.in1.in1 (PySem.Builtin.Str.strOf (.ref x)) (fun r s' => ∃ z t, r = .str z t ∧ Q r s') E s := by
    unfold PySem.Builtin.Str.strOf
    have ne : isExactStr (.ref x) = false := rfl
    rw [ne]
    refine wpAny_bind (m := cRoomFor _ _) (wpAny_cRoomFor hu (wpAny_bind (m := callSpecial? (.ref x) (Str.ofString "__str__")) ?_))
    refine PySem.W.special_fn X I e1 (beq_iff_eq.mp e2) (wpAny_mono h (fun r s' z => ?_) fun _ _ z => z)
    obtain ⟨y, t, rfl, q⟩ := z
    exact wpAny_pure ⟨y, t, rfl, q⟩
  refine callType_codes (T := "str") (Bi := «object.__init__») (Q₁ := fun r s' => ∃ z t, r = .str z t ∧ Q r s') F.called_str (F.typeCall_str_1 _) F.entry_object_init (codeAny_of_tree ?_) fun obj s' z => ?_
  · show wpAny _ A.in1.in1 (checkBuiltinCall "str.__new__" ⟨[.type "str", .ref x], []⟩ >>= fun _ => again (.builtin "str.__new__" ⟨[.type "str", .ref x], []⟩)) _ _ s
    refine wpAny_bind (wpAny_of_eq (F.newCall_str_1 _) (wpAny_pure ⟨plainId_quiet (by decide +kernel) _, codeAny_builtin F.entry_str_new ?_⟩))
    rw [Around.under_plainId (by decide +kernel) _, str_new_tree]
    refine wpAny_bind (wpAny_pure (wpAny_bind (wpAny_of_eq isSubtype_str_str (wpAny_bind (wpAny_mono inner (fun r s' z => wpAny_pure z) fun _ _ z => z)))))
  · obtain ⟨y, t, rfl, q⟩ := z
    exact ⟨typeIs_str _ _ _, F.args_object_init_2 _ _, object_init_meets F.called_str.init.lookup F.called_str.made (by decide) prog w A.in1 _ s' ⟨typeIs_str _ _ _, rfl, q⟩⟩
end
/-- a class whose own __str__ is the text's -/
structure CalS (P : Program) (w : World) (K : PySem.W.Frag) (mg : Str → Option Value) (base : Heap) (k : Nat) (C : Addr) (ps : List Str) (sp : Sp) : Prop where
  ex : ∃ (f : Addr) (fd : FuncData), (PySem.W.findIn K (.ref C) "__str__" = some (some (.ref f)) ∧ PySem.W.isFn K (.ref f) = true) ∧ FnOk P w K mg base CX0 k f fd ps sp ∧ Binds K fd ps []
def rStrO (C : Addr) (sp : Sp) (xs : List V) (H : Hp) (Q : VK) : Prop := ∃ a dx fs, xs = [.ref a] ∧ H a = some (.ins C dx fs) ∧ sp [.ref a] H (fun v H' => ∃ z, v = .str z ∧ Q (.str z) H') E0
section
variable {X : Cx} {k : Nat} {C : Addr} {ps : List Str} {sp : Sp}
theorem call_strO (M : CalS X.prog X.w X.K X.mg X.base k C ps sp) (hr : Room (k + 2) X.A) : CallR X (.type "str") (rStrO C sp) := by
  obtain ⟨f, fd, ⟨e1, e2⟩, F, hb⟩ := M.ex
  intro pins s σ H xs us Q I r h
  obtain ⟨a, dx, fs, rfl, ha, q⟩ := h
  rw [Vals.ref1 r]
  obtain ⟨mA, O, _⟩ := ins_get I.hok ha
  obtain ⟨od, J, _⟩ := O.look
  have hl : ([Value.ref a] ++ []).length = ps.length := (F.len _ _ _ _ q)
  refine own_str (hr.in1.in1.units0) I.kIn J e1 e2 ?_
  refine wpAny_call (codeAny_mono (F.run X.A.in1.in1 X.stack s H ⟨[.ref a], []⟩ [.ref a] [.ref a] _ E0 hr.in1.in1 I.env0.in1.in1 (hb s [.ref a] I.kIn hl) (.cons rfl .nil) q) fun r s' hq => ?_)
  cases r with
  | error e => exact hq.elim
  | ok fl =>
    cases fl with
    | ret u =>
      obtain ⟨v, H1, I1, r1, z, e3, q1⟩ := I.after hq
      subst e3
      obtain ⟨t, e4⟩ := (show ∃ t, u = Value.str z t from r1)
      exact ⟨z, t, e4, .str z, H1, I1, ⟨t, e4⟩, q1⟩
    | next => exact False.elim hq
    | brk => exact False.elim hq
    | cont => exact False.elim hq
end
/-! ### f-strings -/
def tFmt (te : TE) : TE := fun σ H Q => te σ H fun v H1 => (∃ i : Int, v = .int i ∧ i.natAbs.log2 < 1920 ∧ Q (.str (toString i)) H1) ∨ (∃ z, v = .str z ∧ z.length ≤ sizeLine ∧ Q (.str z) H1)
def tJoin : List TE → Str → TE
  | [], acc => fun _ H Q => Q (.str acc) H
  | t :: ts, acc => fun σ H Q => t σ H fun v H1 => ∃ y, v = .str y ∧ (acc ++ y).length ≤ sizeLine ∧ tJoin ts (acc ++ y) σ H1 Q
def PJ (X : Cx) : List Expr → List TE → Prop
  | [], [] => True
  | e :: es, t :: ts => PE X e t ∧ PJ X es ts
  | _, _ => False
section
variable {X : Cx} {e : Expr} {te : TE} {pos : Pos}
theorem pe_fmt (he : PE X e te) : PE X (.FormattedValue e (-1) none pos) (tFmt te) := by
  intro pins s σ H Q I h
  refine wpAny_FormattedValue_plain (thn (he pins s σ H _ I h) fun u s1 ⟨v, H1, I1, r, q⟩ => ?_)
  rcases q with ⟨i, rfl, hi, q⟩ | ⟨z, rfl, hz, q⟩
  · obtain ⟨t, rfl⟩ := r
    exact wpAny_formatField_int hi ⟨.str _, H1, I1.tok _, ⟨_, rfl⟩, q⟩
  · obtain ⟨t, rfl⟩ := r
    exact wpAny_formatField_str ⟨.str _, H1, I1, ⟨_, rfl⟩, q⟩ ⟨.str _, H1, I1.tok _, ⟨_, rfl⟩, q⟩ hz
theorem joins_of {pins : List (Addr × Obj)} {σ : St} {Q : VK} : ∀ (es : List Expr) (ts : List TE) (acc : Str) (s : Shared) (H : Hp), PJ X es ts → acc.length ≤ sizeLine → Inv X pins σ H s → tJoin ts acc σ H Q →
    Joins (model X.prog X.w) X.A X.xe (evalEach es X.env) acc (fun out s1 => out.length ≤ sizeLine ∧ EP X pins σ Q (.str out s1.toks) { s1 with toks := s1.toks + 1 }) s
  | [], [], acc, s, H, _, ha, I, h => ⟨ha, .str acc, H, I.tok _, ⟨_, rfl⟩, h⟩
  | e :: es, t :: ts, acc, s, H, p, ha, I, h => by
    show wpAny (model X.prog X.w) X.A (eval e X.env) _ X.xe s
    refine thn (p.1 pins s σ H _ I h) fun u s1 ⟨v, H1, I1, r, y, e1, hy, q⟩ => ?_
    subst e1
    obtain ⟨t, rfl⟩ := r
    exact ⟨y, t, rfl, hy, joins_of es ts (acc ++ y) s1 H1 p.2 hy I1 q⟩
theorem pe_fjoin {e1 e2 : Expr} {es : List Expr} {ts : List TE} (p : PJ X (e1 :: e2 :: es) ts) : PE X (.JoinedStr (e1 :: e2 :: es) pos) (tJoin ts Str.empty) := by
  intro pins s σ H Q I h
  exact wpAny_JoinedStr (joins_of _ ts Str.empty s H p (Nat.zero_le _) I h)
theorem we_fmt (he : Wr (PE X e te)) : Wr (PE X (.FormattedValue e (-1) none pos) (tFmt te)) := .mk (pe_fmt he.un)
theorem wj_nil : Wr (PJ X [] []) := .mk True.intro
theorem wj_cons {es : List Expr} {ts : List TE} (he : Wr (PE X e te)) (hj : Wr (PJ X es ts)) : Wr (PJ X (e :: es) (te :: ts)) := .mk ⟨he.un, hj.un⟩
theorem we_join {e1 e2 : Expr} {es : List Expr} {ts : List TE} (p : Wr (PJ X (e1 :: e2 :: es) ts)) : Wr (PE X (.JoinedStr (e1 :: e2 :: es) pos) (tJoin ts Str.empty)) := .mk (pe_fjoin p.un)
end
/-! ### xs.count(z) of texts -/
def rCnt (K : PySem.W.Frag) (x : V) (xs : List V) (H : Hp) (Q : VK) : Prop := ∃ (a : Addr) (zs : List Str) (z : Str), x = .ref a ∧ xs = [.str z] ∧ SqL K H a (zs.map V.str) ∧ Q (.int (zs.countP fun y => eqV (.str y) (.str z) : Nat)) H
theorem flat_strs (zs : List Str) : (zs.map V.str).all flatV = true := by
  induction zs with
  | nil => rfl
  | cons z zs ih => rw [List.map_cons, List.all_cons, ih]; rfl
theorem cnt_strs {z : Str} : ∀ {zs : List Str} {us : List Value}, Vals (zs.map V.str) us → us.countP (eqU (.str z)) = zs.countP fun y => eqV (.str y) (.str z)
  | [], _, .nil => rfl
  | y :: zs, u :: us, .cons r t => by
    obtain ⟨k, rfl⟩ := r
    rw [List.countP_cons, List.countP_cons, cnt_strs t]
    rfl
theorem mt_cnt {X : Cx} : MtR X "list.count" (rCnt X.K) := by
  intro pins s σ H x xs v us Q I rx rxs h
  obtain ⟨a, zs, z, rfl, rfl, hs, q⟩ := h
  cases rx
  cases rxs with
  | cons ry rt =>
    cases rt
    obtain ⟨its, rv, ⟨⟨cls, dd, data, sl⟩, n, ho, hc, hdn, hd⟩, hlen⟩ := I.list hs
    simp only at hc hd
    subst hc hd
    refine call_meets PySem.F.slot_list_count ⟨_, ho, rfl⟩ PySem.F.entry_list_count (PySem.F.args_list_count_2 _ _)
      (SeqAt.list_countAt a its.toArray n dd sl _ (eqU (.str z))) ⟨ho, fun u' hu' => mem_eqAt ry rfl rv (flat_strs zs) u' (by simpa using hu'), ?_⟩
    show EP X pins σ Q (.int ((its.countP (eqU (.str z)) : Nat) : Int) s.toks) _
    rw [cnt_strs rv]
    exact ⟨.int _, H, I.tok _, ⟨_, rfl⟩, q⟩
/-! ### set(xs), len -/
theorem met_all (ns : List Int) (nd : ns.Nodup) : ∀ i, i ≤ ns.length → (firstMet (fun i => ns.getD i 0) i) = ns.take i
  | 0, _ => by rw [firstMet_zero]; rfl
  | i + 1, h => by
    have ih := met_all ns nd i (by omega)
    have hg : ns.getD i 0 = ns[i] := by simp [List.getD, List.getElem?_eq_getElem (show i < ns.length by omega)]
    rw [firstMet_succ, ih]
    unfold step_dedup
    rw [hg, if_neg ?_, List.take_succ_eq_append_getElem (by omega)]
    intro z
    obtain ⟨y, hy, e⟩ := List.any_eq_true.mp z
    obtain ⟨j, hj, e1⟩ := List.getElem_of_mem hy
    rw [List.getElem_take] at e1
    have e2 : ns[j]'(by rw [List.length_take] at hj; omega) = ns[i] := by rw [e1]; exact beq_iff_eq.mp e
    rw [List.length_take] at hj
    exact List.pairwise_iff_getElem.mp nd j i (by omega) (by omega) (by omega) e2
def rSetI (K : PySem.W.Frag) (xs : List V) (H : Hp) (Q : VK) : Prop := ∃ (a : Addr) (ns : List Int), xs = [.ref a] ∧ SqL K H a (ns.map V.int) ∧ ns.length < 4000 ∧ ns.Nodup ∧ ∀ p S, H p = none → Q (.ref p) (upd H p (.set S ns.length))
theorem call_setI {X : Cx} (hc : X.calm = true) : CallR X (.type "set") (rSetI X.K) := by
  intro pins s σ H xs us Q I r h
  obtain ⟨a, ns, rfl, hs, hn, nd, q⟩ := h
  obtain ⟨its, rv, hl, _⟩ := I.list hs
  rw [Vals.ref1 r]
  have hil : its.length = ns.length := by have := rv.length; rw [List.length_map] at this; exact this.symm
  refine PySem.call_set_list (ns := ns) (I.ok.hd hc) hl.isList (by simpa using rv.ints) (by unfold scanBound; simp; omega) fun h' tk hS hk => ?_
  have hp : H s.heap.objs.size = none := I.hok.fresh (Nat.le_refl _)
  have e := met_all ns nd its.toArray.size (by simp; omega)
  rw [show its.toArray.size = ns.length from by simp [hil]] at hS e
  have e2 : (firstMet (fun i => ns.getD i 0) ns.length).length = ns.length := by rw [e]; simp
  rw [e2] at hS
  exact ⟨.ref _, _, I.laid (o := .set _ ns.length) (fun b o e => hk b o (Heap.lt_size e) e) (Nat.le_refl _) hS, rfl, q s.heap.objs.size _ hp⟩
def rLenS (xs : List V) (H : Hp) (Q : VK) : Prop := ∃ a S n, xs = [.ref a] ∧ H a = some (.set S n) ∧ Q (.int (n : Nat)) H
theorem call_lenS {X : Cx} : CallR X (.builtin "len") rLenS := by
  intro pins s σ H xs us Q I r h
  obtain ⟨a, S, n, rfl, ha, q⟩ := h
  rw [Vals.ref1 r]
  obtain ⟨o, es, ep, t, ho, hex, hd, _, _, hb, hf, hn⟩ := (show s.heap.SetOf (intKind X.prog X.w) a S n from I.hok _ _ ha)
  subst hn
  exact PySem.call_len_set ho hex hd hf (by unfold scanBound at hb; omega) ⟨.int _, H, I.tok _, ⟨_, rfl⟩, q⟩
end L2

set_option linter.all false
namespace Dw
open PySem
end Dw

set_option Elab.async false
set_option linter.all false
/-! numbers: the arithmetic alone -/
namespace Dw
open PySem
theorem ip_pos (k : Nat) : (0 : Int) < 2 ^ k := by
  have e : (2 : Int) ^ k = ((2 ^ k : Nat) : Int) := by rw [Int.natCast_pow]; rfl
  rw [e]
  have : 0 < 2 ^ k := Nat.pow_pos (by decide)
  omega
theorem ip_cast (k : Nat) : (2 : Int) ^ k = ((2 ^ k : Nat) : Int) := by rw [Int.natCast_pow]; rfl
theorem ip_mono {j k : Nat} (h : j ≤ k) : (2 : Int) ^ j ≤ 2 ^ k := by
  rw [ip_cast, ip_cast]
  have := Nat.pow_le_pow_right (n := 2) (by decide) h
  omega
theorem ip_succ (k : Nat) : (2 : Int) ^ (k + 1) = 2 * 2 ^ k := by rw [Int.pow_succ, Int.mul_comm]
structure Sh where
  p : Int
  lo : Int
  hi : Int
  deriving DecidableEq
structure Sh.Ok (S : Sh) : Prop where
  p2 : 2 ≤ S.p
  p64 : S.p ≤ 64
  l0 : -1100 ≤ S.lo
  l1 : S.lo ≤ 0
  h0 : S.lo ≤ S.hi
  h1 : S.hi ≤ 1000
def Sh.fn (S : Sh) : Int := 2 ^ (S.p.toNat - 1)
theorem Sh.Ok.fn2 {S : Sh} (h : S.Ok) : 2 ≤ S.fn := by
  have h1 := h.p2
  exact Int.le_trans (by decide : (2 : Int) ≤ 2 ^ 1) (ip_mono (by omega))
theorem Sh.Ok.fnB {S : Sh} (h : S.Ok) : S.fn ≤ 9223372036854775808 := by
  have h1 := h.p64
  exact Int.le_trans (ip_mono (k := 63) (by omega)) (by decide)
theorem Sh.Ok.full {S : Sh} (h : S.Ok) : (2 : Int) ^ S.p.toNat = 2 * S.fn := by
  have h1 := h.p2
  unfold Sh.fn
  rw [← ip_succ]
  congr 1
  omega
theorem Sh.Ok.half {S : Sh} (h : S.Ok) : (2 : Int) * 2 ^ (S.p - 2).toNat = S.fn := by
  have h1 := h.p2
  unfold Sh.fn
  rw [← ip_succ]
  congr 1
  omega
def Sh.last (S : Sh) : Int := (S.hi - S.lo + 2) * S.fn
def Sh.fb (S : Sh) : Nat := Builtin.Int.intBits (S.hi - S.lo + 2)
def Sh.topW (S : Sh) : Int := (2 ^ S.fb - 1) * S.fn
def Sh.sgnW (S : Sh) : Int := S.fn * 2 ^ S.fb
theorem Sh.Ok.fb12 {S : Sh} (h : S.Ok) : S.fb ≤ 12 := by
  have := h.h0; have := h.h1; have := h.l0
  exact intBits_le_iff.mpr (by omega)
theorem Sh.Ok.fbW {S : Sh} (h : S.Ok) : S.hi - S.lo + 2 ≤ 2 ^ S.fb - 1 := by
  have h3 := h.h0
  have := intBits_le_iff.mp (Nat.le_refl (Builtin.Int.intBits (S.hi - S.lo + 2)))
  show _ ≤ (2 : Int) ^ Builtin.Int.intBits (S.hi - S.lo + 2) - 1
  rw [ip_cast]
  omega
theorem mul_le_r {a b c : Int} (h : a ≤ b) (hc : 0 ≤ c) : a * c ≤ b * c := Int.mul_le_mul_of_nonneg_right h hc
theorem Sh.Ok.lastTop {S : Sh} (h : S.Ok) : S.last ≤ S.topW := mul_le_r h.fbW (by have := h.fn2; omega)
theorem Sh.Ok.topSgn {S : Sh} (h : S.Ok) : S.topW + S.fn = S.sgnW := by
  unfold Sh.topW Sh.sgnW
  rw [Int.sub_mul, Int.mul_comm S.fn]
  omega
theorem Sh.Ok.last4 {S : Sh} (h : S.Ok) : 2 * S.fn ≤ S.last := mul_le_r (by have := h.h0; omega) (by have := h.fn2; omega)
theorem Sh.Ok.lastB {S : Sh} (h : S.Ok) : S.last ≤ 2102 * 9223372036854775808 := by
  have h1 : S.last ≤ 2102 * S.fn := mul_le_r (by have := h.h1; have := h.l0; omega) (by have := h.fn2; omega)
  have := h.fnB
  omega
theorem Sh.Ok.fbB {S : Sh} (h : S.Ok) : (2 : Int) ^ S.fb ≤ 4096 := Int.le_trans (ip_mono h.fb12) (by decide)
theorem Sh.Ok.sgnB {S : Sh} (h : S.Ok) : S.sgnW ≤ 4096 * 9223372036854775808 := by
  have h1 : S.sgnW ≤ S.fn * 4096 := Int.mul_le_mul_of_nonneg_left h.fbB (by have := h.fn2; omega)
  have := h.fnB
  omega
structure Nm where
  S : Sh
  s : Int
  m : Int
  e : Int
  st : Nat
  deriving DecidableEq
structure Nm.Ok (n : Nm) : Prop where
  sh : n.S.Ok
  s01 : n.s = 0 ∨ n.s = 1
  m0 : 0 ≤ n.m
  m1 : n.m < 2 * n.S.fn
  e0 : n.S.lo ≤ n.e
  e1 : n.e ≤ n.S.hi
  nrm : n.S.lo < n.e → n.S.fn ≤ n.m
  st2 : n.st ≤ 2
  far : n.st ≠ 0 → n.m = 0 ∧ n.e = n.S.lo
  nn : n.st = 2 → n.s = 0
def Nm.stp (n : Nm) : Int := n.m + (n.e - n.S.lo) * n.S.fn
def Nm.steps (n : Nm) : Int := if n.st = 1 then n.S.last else n.stp
def Nm.rank (n : Nm) : Int := if n.s = 1 then -n.steps else n.steps
def Nm.wst (n : Nm) : Int := if n.st = 1 then n.S.topW else n.stp
def Nm.word (n : Nm) : Int := if n.st = 2 then n.S.topW + 2 ^ (n.S.p - 2).toNat else if n.s = 1 then n.wst + n.S.sgnW else n.wst
def Sh.rise (S : Sh) (k : Int) : Int := if k / S.fn - 1 > 0 then k / S.fn - 1 else 0
def Sh.inf (S : Sh) (s : Int) : Nm := ⟨S, s, 0, S.lo, 1⟩
def Sh.zero (S : Sh) (s : Int) : Nm := ⟨S, s, 0, S.lo, 0⟩
def Sh.nan (S : Sh) : Nm := ⟨S, 0, 0, S.lo, 2⟩
def Sh.ofSteps (S : Sh) (k s : Int) : Nm := if k = S.last then S.inf s else ⟨S, s, k - S.rise k * S.fn, S.lo + S.rise k, 0⟩
theorem Sh.Ok.zeroOk {S : Sh} (h : S.Ok) {s : Int} (hs : s = 0 ∨ s = 1) : (S.zero s).Ok := ⟨h, hs, Int.le_refl _, by have := h.fn2; show (0 : Int) < 2 * S.fn; omega, Int.le_refl _, h.h0, fun z => absurd z (Int.lt_irrefl _), Nat.le_of_ble_eq_true rfl, fun z => absurd rfl z, fun z => nomatch z⟩
theorem Sh.Ok.infOk {S : Sh} (h : S.Ok) {s : Int} (hs : s = 0 ∨ s = 1) : (S.inf s).Ok := ⟨h, hs, Int.le_refl _, by have := h.fn2; show (0 : Int) < 2 * S.fn; omega, Int.le_refl _, h.h0, fun z => absurd z (Int.lt_irrefl _), Nat.le_of_ble_eq_true rfl, fun z => ⟨rfl, rfl⟩, fun z => nomatch z⟩
theorem Sh.Ok.nanOk {S : Sh} (h : S.Ok) : S.nan.Ok := ⟨h, .inl rfl, Int.le_refl _, by have := h.fn2; show (0 : Int) < 2 * S.fn; omega, Int.le_refl _, h.h0, fun z => absurd z (Int.lt_irrefl _), Nat.le_of_ble_eq_true rfl, fun z => ⟨rfl, rfl⟩, fun z => rfl⟩
theorem Sh.Ok.rise_eq {S : Sh} (h : S.Ok) {k r m : Int} (e : k = m + r * S.fn) (r0 : 0 ≤ r) (m0 : 0 ≤ m) (m1 : m < 2 * S.fn) (hn : 0 < r → S.fn ≤ m) : S.rise k = r := by
  have f2 := h.fn2
  unfold Sh.rise
  by_cases hm : m < S.fn
  · have r00 : r = 0 := by
      rcases (show 0 < r ∨ r ≤ 0 by omega) with z | z
      · have := hn z; omega
      · omega
    subst r00
    have : k / S.fn = 0 := Int.ediv_eq_zero_of_lt (by omega) (by omega)
    rw [this, if_neg (by omega)]
  · have e2 : k = (m - S.fn) + (r + 1) * S.fn := by rw [e, Int.add_mul]; omega
    have : k / S.fn = r + 1 := by
      rw [e2, Int.add_mul_ediv_right _ _ (by omega), Int.ediv_eq_zero_of_lt (by omega) (by omega)]
      omega
    rw [this]
    split <;> omega
/-- every k has its parts -/
theorem Sh.Ok.parts {S : Sh} (h : S.Ok) {k : Int} (k0 : 0 ≤ k) : ∃ r m, k = m + r * S.fn ∧ 0 ≤ r ∧ 0 ≤ m ∧ m < 2 * S.fn ∧ (0 < r → S.fn ≤ m) ∧ S.rise k = r := by
  have f2 := h.fn2
  have d1 := Int.emod_add_mul_ediv k S.fn
  have d2 := Int.emod_nonneg k (show S.fn ≠ 0 by omega)
  have d3 := Int.emod_lt_of_pos k (show 0 < S.fn by omega)
  have q0 : 0 ≤ k / S.fn := Int.ediv_nonneg k0 (by omega)
  rw [Int.mul_comm] at d1
  by_cases hq : k / S.fn = 0
  · rw [hq, Int.zero_mul] at d1
    refine ⟨0, k, by omega, Int.le_refl _, k0, by omega, fun z => absurd z (Int.lt_irrefl _), ?_⟩
    exact h.rise_eq (m := k) (by omega) (Int.le_refl _) k0 (by omega) fun z => absurd z (Int.lt_irrefl _)
  · have e2 : k = (k % S.fn + S.fn) + (k / S.fn - 1) * S.fn := by rw [Int.sub_mul]; omega
    have g := h.rise_eq e2 (by omega) (by omega) (by omega) fun _ => by omega
    exact ⟨_, _, e2, by omega, by omega, by omega, fun _ => by omega, g⟩
theorem Nm.Ok.rise {n : Nm} (h : n.Ok) : n.S.rise n.stp = n.e - n.S.lo := h.sh.rise_eq (m := n.m) rfl (by have := h.e0; omega) h.m0 h.m1 fun z => h.nrm (by omega)
theorem Nm.Ok.stp0 {n : Nm} (h : n.Ok) : 0 ≤ n.stp := by
  have := h.m0
  have : 0 ≤ (n.e - n.S.lo) * n.S.fn := Int.mul_nonneg (by have := h.e0; omega) (by have := h.sh.fn2; omega)
  unfold Nm.stp; omega
theorem Nm.Ok.stpL {n : Nm} (h : n.Ok) : n.stp < n.S.last := by
  have f2 := h.sh.fn2
  have h1 : (n.e - n.S.lo) * n.S.fn ≤ (n.S.hi - n.S.lo) * n.S.fn := mul_le_r (by have := h.e1; omega) (by omega)
  have h2 : n.S.last = (n.S.hi - n.S.lo) * n.S.fn + 2 * n.S.fn := by unfold Sh.last; rw [Int.add_mul]
  have := h.m1
  unfold Nm.stp; omega
theorem Nm.Ok.steps0 {n : Nm} (h : n.Ok) : 0 ≤ n.steps ∧ n.steps ≤ n.S.last := by
  have h1 := h.stp0; have h2 := h.stpL; have h3 := h.sh.last4; have h4 := h.sh.fn2
  unfold Nm.steps
  split <;> omega
theorem Nm.Ok.back {n : Nm} (h : n.Ok) (hs : n.st ≠ 2) : n.S.ofSteps n.steps n.s = n := by
  have h2 := h.stpL
  have h3 := h.st2
  obtain ⟨S, s, m, e, st⟩ := n
  unfold Nm.steps Sh.ofSteps
  by_cases e1 : st = 1
  · subst e1
    obtain ⟨a, b⟩ := h.far (show (1 : Nat) ≠ 0 by decide)
    simp only at a b
    subst a b
    simp [Sh.inf]
  · have e0 : st = 0 := by simp only at hs h3; omega
    subst e0
    have hr := h.rise
    have hne : ¬ ((⟨S, s, m, e, 0⟩ : Nm).stp = S.last) := by have h2' : (⟨S, s, m, e, 0⟩ : Nm).stp < S.last := h2; omega
    show (if (⟨S, s, m, e, 0⟩ : Nm).stp = S.last then _ else (⟨S, s, (⟨S, s, m, e, 0⟩ : Nm).stp - S.rise (⟨S, s, m, e, 0⟩ : Nm).stp * S.fn, S.lo + S.rise (⟨S, s, m, e, 0⟩ : Nm).stp, 0⟩ : Nm)) = _
    rw [if_neg hne, show S.rise (⟨S, s, m, e, 0⟩ : Nm).stp = e - S.lo from hr]
    simp only [Nm.stp]
    have : m + (e - S.lo) * S.fn - (e - S.lo) * S.fn = m := by omega
    rw [this, show S.lo + (e - S.lo) = e from by omega]
theorem Sh.Ok.stepsOk {S : Sh} (h : S.Ok) {k s : Int} (k0 : 0 ≤ k) (k1 : k ≤ S.last) (hs : s = 0 ∨ s = 1) : (S.ofSteps k s).Ok ∧ (S.ofSteps k s).steps = k ∧ (S.ofSteps k s).s = s ∧ (S.ofSteps k s).S = S ∧ (S.ofSteps k s).st = (if k = S.last then 1 else 0) := by
  unfold Sh.ofSteps
  by_cases e : k = S.last
  · rw [if_pos e, if_pos e]
    exact ⟨h.infOk hs, e.symm, rfl, rfl, rfl⟩
  · rw [if_neg e, if_neg e]
    obtain ⟨r, m, e1, r0, m0, m1, hn, er⟩ := h.parts k0
    rw [er]
    have e2 : k - r * S.fn = m := by omega
    rw [e2]
    have f2 := h.fn2
    have hr : S.lo + r ≤ S.hi := by
      rcases (show S.hi < S.lo + r ∨ S.lo + r ≤ S.hi by omega) with z | z
      · have h1 : (S.hi - S.lo + 1) * S.fn ≤ r * S.fn := mul_le_r (by omega) (by omega)
        have h2 : S.last = (S.hi - S.lo + 1) * S.fn + S.fn := by unfold Sh.last; rw [show S.hi - S.lo + 2 = (S.hi - S.lo + 1) + 1 from by omega, Int.add_mul _ 1, Int.one_mul]
        have := hn (by have := h.h0; omega)
        omega
      · exact z
    refine ⟨⟨h, hs, m0, m1, by show S.lo ≤ S.lo + r; omega, hr, fun z => hn (by have z' : S.lo < S.lo + r := z; omega), Nat.le_of_ble_eq_true rfl, fun z => absurd rfl z, fun z => nomatch z⟩, ?_, rfl, rfl, rfl⟩
    show m + (S.lo + r - S.lo) * S.fn = k
    rw [show S.lo + r - S.lo = r from by omega]
    omega
/-! ### order -/
def sgn (a b : Int) : Int := if a = b then 0 else if a < b then -1 else 1
theorem sgn_swap (a b : Int) : sgn a b = 0 - sgn b a := by unfold sgn; split <;> split <;> (try split) <;> (try split) <;> omega
theorem sgn_eq {a b c d : Int} (h1 : a < b → c < d) (h2 : b < a → d < c) (h3 : a = b → c = d) : sgn a b = sgn c d := by
  unfold sgn
  rcases Int.lt_trichotomy a b with z | z | z
  · have := h1 z
    rw [if_neg (by omega), if_pos z, if_neg (by omega), if_pos this]
  · rw [if_pos z, if_pos (h3 z)]
  · have := h2 z
    rw [if_neg (by omega), if_neg (by omega), if_neg (by omega), if_neg (by omega)]
def wt (e : Int) : Int := 2 ^ (e + 1100).toNat
theorem wt_pos (e : Int) : 0 < wt e := ip_pos _
theorem wt_succ {e : Int} (h : -1100 ≤ e) : wt (e + 1) = 2 * wt e := by
  unfold wt
  rw [← ip_succ]
  congr 1
  omega
theorem wt_mono {e e' : Int} (h : e ≤ e') : wt e ≤ wt e' := ip_mono (by omega)
def Nm.sx (n : Nm) : Int := if n.s = 1 then -n.m else n.m
def Nm.sc (n : Nm) : Int := n.sx * wt n.e
theorem stp_lt {S : Sh} (h : S.Ok) {m e m' e' : Int} (m0 : 0 ≤ m) (m1 : m < 2 * S.fn) (e0 : S.lo ≤ e) (hn : S.lo < e → S.fn ≤ m) (m0' : 0 ≤ m') (m1' : m' < 2 * S.fn) (e0' : S.lo ≤ e') (hn' : S.lo < e' → S.fn ≤ m')
    (hk : m + (e - S.lo) * S.fn < m' + (e' - S.lo) * S.fn) : m * wt e < m' * wt e' := by
  have f2 := h.fn2
  have l0 := h.l0
  rcases Int.lt_trichotomy e e' with z | z | z
  · have h1 : m < 2 * m' := by have := hn' (by omega); omega
    have h2 : m * wt e < 2 * m' * wt e := Int.mul_lt_mul_of_pos_right h1 (wt_pos e)
    have h3 : wt (e + 1) ≤ wt e' := wt_mono (by omega)
    have h4 : m' * wt (e + 1) ≤ m' * wt e' := Int.mul_le_mul_of_nonneg_left h3 m0'
    rw [wt_succ (by omega), ← Int.mul_assoc, Int.mul_comm m' 2] at h4
    omega
  · subst z
    exact Int.mul_lt_mul_of_pos_right (by omega) (wt_pos e)
  · have h1 : (e' - S.lo + 1) * S.fn ≤ (e - S.lo) * S.fn := mul_le_r (by omega) (by omega)
    rw [Int.add_mul, Int.one_mul] at h1
    have := hn (by omega)
    omega
theorem sx_cases (n : Nm) (h : n.Ok) : (n.s = 1 ∧ n.sx = -n.m) ∨ (n.s = 0 ∧ n.sx = n.m) := by
  unfold Nm.sx
  rcases h.s01 with e | e
  · exact .inr ⟨e, by rw [if_neg (by omega)]⟩
  · exact .inl ⟨e, by rw [if_pos e]⟩
theorem sc_lt {a b : Nm} (ha : a.Ok) (hb : b.Ok) (hS : a.S = b.S) (h : a.stp < b.stp) : a.m * wt a.e < b.m * wt b.e := by
  have h1 := ha.sh
  refine stp_lt h1 ha.m0 ha.m1 ha.e0 ha.nrm hb.m0 (by rw [hS]; exact hb.m1) (by rw [hS]; exact hb.e0) (by rw [hS]; exact hb.nrm) ?_
  have h2 : b.stp = b.m + (b.e - a.S.lo) * a.S.fn := by rw [hS]; rfl
  rw [← h2]
  exact h
theorem sc_eq {a b : Nm} (ha : a.Ok) (hb : b.Ok) (hS : a.S = b.S) (h : a.stp = b.stp) : a.m = b.m ∧ a.e = b.e := by
  have h1 := ha.rise
  have h2 := hb.rise
  rw [← hS, ← h, h1] at h2
  have h3 : a.e = b.e := by omega
  refine ⟨?_, h3⟩
  unfold Nm.stp at h
  rw [← hS, h3] at h
  omega
theorem Nm.Ok.mw {n : Nm} (h : n.Ok) : 0 ≤ n.m * wt n.e := Int.mul_nonneg h.m0 (by have := wt_pos n.e; omega)
theorem Nm.Ok.mw0 {n : Nm} (h : n.Ok) : n.m * wt n.e = 0 ↔ n.stp = 0 := by
  have w0 := wt_pos n.e
  have f2 := h.sh.fn2
  constructor
  · intro z
    have m0 : n.m = 0 := by
      rcases Int.mul_eq_zero.mp z with q | q
      · exact q
      · omega
    have e0 : n.e = n.S.lo := by
      rcases (show n.S.lo < n.e ∨ n.e ≤ n.S.lo by omega) with q | q
      · have := h.nrm q; omega
      · have := h.e0; omega
    unfold Nm.stp
    rw [m0, e0, Int.sub_self, Int.zero_mul]
    rfl
  · intro z
    have m0 : n.m = 0 := by
      have h1 := h.m0
      have : 0 ≤ (n.e - n.S.lo) * n.S.fn := Int.mul_nonneg (by have := h.e0; omega) (by omega)
      unfold Nm.stp at z
      omega
    rw [m0, Int.zero_mul]
theorem Nm.sc_of {n : Nm} (h : n.Ok) : (n.s = 1 ∧ n.sc = -(n.m * wt n.e)) ∨ (n.s = 0 ∧ n.sc = n.m * wt n.e) := by
  unfold Nm.sc
  rcases sx_cases n h with ⟨a, b⟩ | ⟨a, b⟩
  · exact .inl ⟨a, by rw [b, Int.neg_mul]⟩
  · exact .inr ⟨a, by rw [b]⟩
theorem Nm.rank_of {n : Nm} (h : n.Ok) (h0 : n.st = 0) : (n.s = 1 ∧ n.rank = -n.stp) ∨ (n.s = 0 ∧ n.rank = n.stp) := by
  unfold Nm.rank Nm.steps
  rw [h0]
  rcases h.s01 with e | e
  · exact .inr ⟨e, by rw [if_neg (by omega)]; rfl⟩
  · exact .inl ⟨e, by rw [if_pos e]; rfl⟩
theorem sc_rank {a b : Nm} (ha : a.Ok) (hb : b.Ok) (hS : a.S = b.S) (a0 : a.st = 0) (b0 : b.st = 0) : sgn a.sc b.sc = sgn a.rank b.rank := by
  have pa := ha.stp0; have pb := hb.stp0
  have qa := ha.mw; have qb := hb.mw
  have za := ha.mw0; have zb := hb.mw0
  have lt1 := sc_lt ha hb hS
  have lt2 := sc_lt hb ha hS.symm
  have eq1 : a.stp = b.stp → a.m * wt a.e = b.m * wt b.e := fun z => by rw [(sc_eq ha hb hS z).1, (sc_eq ha hb hS z).2]
  have lt1 : b.stp ≤ a.stp ∨ a.m * wt a.e < b.m * wt b.e := by rcases (show a.stp < b.stp ∨ b.stp ≤ a.stp by omega) with z | z; exact .inr (lt1 z); exact .inl z
  have lt2 : a.stp ≤ b.stp ∨ b.m * wt b.e < a.m * wt a.e := by rcases (show b.stp < a.stp ∨ a.stp ≤ b.stp by omega) with z | z; exact .inr (lt2 z); exact .inl z
  have eq1 : a.stp < b.stp ∨ b.stp < a.stp ∨ a.m * wt a.e = b.m * wt b.e := by rcases (show a.stp < b.stp ∨ b.stp < a.stp ∨ a.stp = b.stp by omega) with z | z | z; exact .inl z; exact .inr (.inl z); exact .inr (.inr (eq1 z))
  have C1 := Nm.sc_of ha
  have C2 := Nm.sc_of hb
  have R1 := Nm.rank_of ha a0
  have R2 := Nm.rank_of hb b0
  generalize a.m * wt a.e = A at *
  generalize b.m * wt b.e = B at *
  rcases C1 with ⟨s1, c1⟩ | ⟨s1, c1⟩ <;> rcases C2 with ⟨s2, c2⟩ | ⟨s2, c2⟩ <;> rcases R1 with ⟨s3, r1⟩ | ⟨s3, r1⟩ <;> rcases R2 with ⟨s4, r2⟩ | ⟨s4, r2⟩ <;> (try omega) <;> rw [c1, c2, r1, r2] <;>
    (refine sgn_eq ?_ ?_ ?_ <;> omega)
def Nm.side (n : Nm) : Int := if n.st = 1 then (if n.s = 1 then -1 else 1) else 0
def cmpN (a b : Nm) : Int := if a.st = 1 ∨ b.st = 1 then sgn a.side b.side else sgn a.sc b.sc
theorem cmp_rank {a b : Nm} (ha : a.Ok) (hb : b.Ok) (hS : a.S = b.S) (a2 : a.st ≠ 2) (b2 : b.st ≠ 2) : cmpN a b = sgn a.rank b.rank := by
  have sa := ha.st2; have sb := hb.st2
  have la := ha.stpL; have lb := hb.stpL; have pa := ha.stp0; have pb := hb.stp0
  have l4 := ha.sh.last4; have f2 := ha.sh.fn2
  have hL : b.S.last = a.S.last := by rw [hS]
  unfold cmpN
  by_cases h1 : a.st = 1 ∨ b.st = 1
  · rw [if_pos h1]
    have ra : a.rank = if a.s = 1 then -(if a.st = 1 then a.S.last else a.stp) else (if a.st = 1 then a.S.last else a.stp) := rfl
    have rb : b.rank = if b.s = 1 then -(if b.st = 1 then b.S.last else b.stp) else (if b.st = 1 then b.S.last else b.stp) := rfl
    have da : a.side = if a.st = 1 then (if a.s = 1 then -1 else 1) else 0 := rfl
    have db : b.side = if b.st = 1 then (if b.s = 1 then -1 else 1) else 0 := rfl
    rw [hL] at rb lb
    rw [ra, rb, da, db]
    clear ra rb da db
    refine sgn_eq ?_ ?_ ?_ <;> (split <;> split <;> split <;> split <;> omega)
  · rw [if_neg h1]
    exact sc_rank ha hb hS (by omega) (by omega)
end Dw

set_option Elab.async false
set_option linter.all false
/-! numbers: values, next ones -/
namespace Dw
open PySem
/-! ### the lowest bit -/
theorem and2 (a b : Nat) : a &&& b = 2 * (a / 2 &&& b / 2) + (a % 2) * (b % 2) := by
  have h1 : (a &&& b) / 2 = a / 2 &&& b / 2 := by
    have := Nat.and_div_two_pow (a := a) (b := b) (n := 1)
    simpa using this
  have h2 : (a &&& b) % 2 = (a % 2) &&& (b % 2) := by
    have := Nat.and_mod_two_pow (a := a) (b := b) (n := 1)
    simpa using this
  have h3 : (a % 2) &&& (b % 2) = (a % 2) * (b % 2) := by
    rcases Nat.mod_two_eq_zero_or_one a with e | e <;> rcases Nat.mod_two_eq_zero_or_one b with e' | e' <;> rw [e, e'] <;> rfl
  rw [h3] at h2
  omega
theorem low_spec : ∀ (n y : Nat), y ≤ n → 0 < y → ∃ v j, y = 2 ^ v * (2 * j + 1) ∧ y - (y &&& (y - 1)) = 2 ^ v ∧ (y &&& (y - 1)) ≤ y
  | 0, y, h, h0 => by omega
  | n + 1, y, h, h0 => by
    have e := and2 y (y - 1)
    rcases Nat.mod_two_eq_zero_or_one y with z | z
    · obtain ⟨v, j, e1, e2, e3⟩ := low_spec n (y / 2) (by omega) (by omega)
      have e4 : (y - 1) / 2 = y / 2 - 1 := by omega
      rw [z, Nat.zero_mul, e4] at e
      refine ⟨v + 1, j, ?_, ?_, ?_⟩
      · rw [Nat.pow_succ, Nat.mul_comm (2 ^ v) 2, Nat.mul_assoc, ← e1]
        omega
      · rw [Nat.pow_succ, Nat.mul_comm (2 ^ v) 2, ← e2]
        omega
      · omega
    · have e4 : (y - 1) / 2 = y / 2 := by omega
      have e5 : (y - 1) % 2 = 0 := by omega
      rw [e4, e5, Nat.mul_zero, Nat.and_self] at e
      exact ⟨0, y / 2, by omega, by omega, by omega⟩
theorem low_pos {y : Int} (h : 0 < y) : ∃ v : Nat, ∃ j : Int, y = 2 ^ v * (2 * j + 1) ∧ Builtin.bitAnd y (-y) = 2 ^ v := by
  obtain ⟨v, j, e1, e2, e3⟩ := low_spec y.toNat y.toNat (Nat.le_refl _) (by omega)
  have e4 : (Builtin.bitNot (-y)).toNat = y.toNat - 1 := by
    show (-(-y) - 1).toNat = _
    omega
  refine ⟨v, j, ?_, ?_⟩
  · have : y = ((y.toNat : Nat) : Int) := by omega
    rw [this, e1, Int.natCast_mul, Int.natCast_pow]
    rfl
  · rw [PyProof.Rows.bitAnd_pn (by omega) (by omega), e4, ip_cast, ← e2]
    omega
theorem low_ne {x : Int} (h : x ≠ 0) : ∃ v : Nat, ∃ j : Int, x = 2 ^ v * (2 * j + 1) ∧ Builtin.bitAnd x (-x) = 2 ^ v := by
  rcases (show 0 < x ∨ x < 0 by omega) with z | z
  · exact low_pos z
  · obtain ⟨v, j, e1, e2⟩ := low_pos (y := -x) (by omega)
    refine ⟨v, -j - 1, ?_, ?_⟩
    · have : x = -(2 ^ v * (2 * j + 1)) := by omega
      rw [this, ← Int.mul_neg]
      congr 1
      omega
    · rw [Int.neg_neg] at e2
      rw [PyProof.Rows.bitAnd_comm]
      exact e2
theorem bits_two (v : Nat) : Builtin.Int.intBits ((2 : Int) ^ v) = v + 1 := by
  have e : ((2 : Int) ^ v).natAbs = 2 ^ v := by rw [ip_cast, Int.natAbs_natCast]
  have h1 : Builtin.Int.intBits ((2 : Int) ^ v) ≤ v + 1 := intBits_le_iff.mpr (by rw [e]; exact Nat.pow_lt_pow_right (by decide) (by omega))
  have h2 : ¬ Builtin.Int.intBits ((2 : Int) ^ v) ≤ v := fun z => by
    have := intBits_le_iff.mp z
    rw [e] at this
    omega
  omega
def tz (x : Int) : Nat := Builtin.Int.intBits (Builtin.bitAnd x (-x)) - 1
theorem tz_bits {x : Int} (h : x ≠ 0) : ((Builtin.Int.intBits (Builtin.bitAnd x (-x)) : Nat) : Int) - 1 = (tz x : Nat) := by
  obtain ⟨v, j, _, e⟩ := low_ne h
  unfold tz
  rw [e, bits_two]
  omega
theorem tz_spec {x : Int} (h : x ≠ 0) : ∃ j : Int, x = 2 ^ tz x * (2 * j + 1) := by
  obtain ⟨v, j, e1, e⟩ := low_ne h
  have : tz x = v := by unfold tz; rw [e, bits_two]; omega
  rw [this]
  exact ⟨j, e1⟩
theorem tz_dvd {x : Int} (h : x ≠ 0) {t : Nat} (ht : t ≤ tz x) : ∃ y, x = 2 ^ t * y := by
  obtain ⟨j, e⟩ := tz_spec h
  refine ⟨2 ^ (tz x - t) * (2 * j + 1), ?_⟩
  rw [← Int.mul_assoc, ← Int.pow_add, show t + (tz x - t) = tz x from by omega]
  exact e
/-! ### values -/
def Nm.sp (n : Nm) : Nat := min (tz n.sx) (-n.e).toNat
def Nm.num (n : Nm) : Int := if 0 ≤ n.e then n.sx * 2 ^ n.e.toNat else if n.sx = 0 then 0 else n.sx / 2 ^ n.sp
def Nm.den (n : Nm) : Int := if 0 ≤ n.e then 1 else if n.sx = 0 then 1 else 2 ^ ((-n.e).toNat - n.sp)
theorem den_pow {n : Nm} (h : n.Ok) : ∃ j : Nat, n.den = 2 ^ j ∧ (j : Int) ≤ -n.S.lo := by
  have l1 := h.sh.l1
  have e0 := h.e0
  unfold Nm.den
  split
  · exact ⟨0, rfl, by omega⟩
  · split
    · exact ⟨0, rfl, by omega⟩
    · exact ⟨_, rfl, by omega⟩
theorem den_pos {n : Nm} (h : n.Ok) : 0 < n.den := by
  obtain ⟨j, e, _⟩ := den_pow h
  rw [e]
  exact ip_pos j
theorem val_sc {n : Nm} (h : n.Ok) : n.num * 2 ^ 1100 = n.sc * n.den := by
  have e0 := h.e0
  have l0 := h.sh.l0
  unfold Nm.num Nm.den Nm.sc wt
  by_cases he : 0 ≤ n.e
  · rw [if_pos he, if_pos he, Int.mul_one, Int.mul_assoc, ← Int.pow_add]
    congr 2
    omega
  · rw [if_neg he, if_neg he]
    by_cases hx : n.sx = 0
    · rw [if_pos hx, if_pos hx, hx]
      rw [Int.zero_mul, Int.zero_mul, Int.zero_mul]
    · rw [if_neg hx, if_neg hx]
      obtain ⟨y, ey⟩ := tz_dvd hx (t := n.sp) (Nat.min_le_left _ _)
      have hp := ip_pos n.sp
      have e1 : n.sx / 2 ^ n.sp = y := by
        conv => lhs; rw [ey]
        exact Int.mul_ediv_cancel_left _ (by omega)
      have hs : n.sp ≤ (-n.e).toNat := Nat.min_le_right _ _
      rw [e1]
      conv => rhs; rw [ey]
      rw [Int.mul_comm (2 ^ n.sp) y, Int.mul_assoc, Int.mul_assoc, ← Int.pow_add, ← Int.pow_add]
      congr 2
      omega
theorem sgn_mul {a b c : Int} (h : 0 < c) : sgn (a * c) (b * c) = sgn a b :=
  (sgn_eq (fun z => Int.mul_lt_mul_of_pos_right z h) (fun z => Int.mul_lt_mul_of_pos_right z h) (fun z => by rw [z])).symm
theorem order_val {a b : Nm} (ha : a.Ok) (hb : b.Ok) : sgn (a.num * b.den) (b.num * a.den) = sgn a.sc b.sc := by
  have w0 : (0 : Int) < 2 ^ 1100 := ip_pos _
  have va := val_sc ha
  have vb := val_sc hb
  have d0 : 0 < a.den * b.den := Int.mul_pos (den_pos ha) (den_pos hb)
  rw [← sgn_mul w0 (a := a.num * b.den), ← sgn_mul d0 (a := a.sc)]
  generalize (2 : Int) ^ 1100 = W at *
  have h1 : a.num * b.den * W = a.sc * (a.den * b.den) := by rw [Int.mul_right_comm, va, Int.mul_assoc]
  have h2 : b.num * a.den * W = b.sc * (a.den * b.den) := by rw [Int.mul_right_comm, vb, Int.mul_assoc, Int.mul_comm b.den]
  rw [h1, h2]
/-! ### the other sign -/
def negN (n : Nm) : Nm := if n.st = 2 then n else { n with s := 1 - n.s }
theorem neg_ok {n : Nm} (h : n.Ok) : (negN n).Ok := by
  unfold negN
  split
  · exact h
  · rename_i z
    refine ⟨h.sh, ?_, h.m0, h.m1, h.e0, h.e1, h.nrm, h.st2, h.far, fun q => absurd q z⟩
    show 1 - n.s = 0 ∨ 1 - n.s = 1
    have := h.s01
    omega
theorem neg_neg {n : Nm} : negN (negN n) = n := by
  unfold negN
  by_cases h : n.st = 2
  · rw [if_pos h, if_pos h]
  · rw [if_neg h, if_neg h]
    obtain ⟨S, s, m, e, st⟩ := n
    simp only [Nm.mk.injEq, true_and, and_true]
    omega
/-! ### by rank, by word, next ones -/
def absI (i : Int) : Int := if i < 0 then -i else i
def rankN (S : Sh) (r : Int) : Nm := S.ofSteps (absI r) (if r < 0 then 1 else 0)
theorem rankN_ok {S : Sh} (h : S.Ok) {r : Int} (h1 : -S.last ≤ r) (h2 : r ≤ S.last) : (rankN S r).Ok ∧ (rankN S r).rank = r ∧ (rankN S r).S = S ∧ (rankN S r).st ≠ 2 ∧ ((rankN S r).st = 1 ↔ absI r = S.last) ∧ ((rankN S r).s = if r < 0 then 1 else 0) := by
  have a0 : 0 ≤ absI r := by unfold absI; split <;> omega
  have a1 : absI r ≤ S.last := by unfold absI; split <;> omega
  obtain ⟨o1, o2, o3, o4, o5⟩ := h.stepsOk a0 a1 (s := if r < 0 then 1 else 0) (by split <;> simp)
  refine ⟨o1, ?_, o4, ?_, ?_, o3⟩
  · show (if (S.ofSteps _ _).s = 1 then -(S.ofSteps _ _).steps else (S.ofSteps _ _).steps) = r
    rw [o3, o2]
    unfold absI
    split <;> split <;> simp_all <;> omega
  · show (S.ofSteps _ _).st ≠ 2
    rw [o5]
    split <;> decide
  · show (S.ofSteps _ _).st = 1 ↔ _
    rw [o5]
    split <;> simp_all
theorem rank_abs {n : Nm} (h : n.Ok) (h0 : n.st ≠ 2) : absI n.rank = n.steps ∧ -n.S.last ≤ n.rank ∧ n.rank ≤ n.S.last := by
  obtain ⟨a, b⟩ := h.steps0
  unfold absI Nm.rank
  have := h.s01
  by_cases e : n.s = 1
  · rw [if_pos e]
    split <;> omega
  · rw [if_neg e]
    split <;> omega
theorem rank_back {n : Nm} (h : n.Ok) (h0 : n.st ≠ 2) (hr : n.rank ≠ 0) : rankN n.S n.rank = n := by
  obtain ⟨a, _, _⟩ := rank_abs h h0
  obtain ⟨b, _⟩ := h.steps0
  have hs : (if n.rank < 0 then (1 : Int) else 0) = n.s := by
    unfold Nm.rank at hr ⊢
    have := h.s01
    by_cases e : n.s = 1
    · rw [if_pos e] at hr ⊢
      rw [if_pos (by omega), e]
    · rw [if_neg e] at hr ⊢
      rw [if_neg (by omega)]
      omega
  unfold rankN
  rw [a, hs]
  exact h.back h0
theorem rank_zero {n : Nm} (h : n.Ok) (h0 : n.st ≠ 2) (hr : n.rank = 0) : n = n.S.zero n.s := by
  obtain ⟨a, _, _⟩ := rank_abs h h0
  rw [hr] at a
  have a' : n.steps = 0 := by rw [← a]; rfl
  have b := h.back h0
  have l4 := h.sh.last4
  have f2 := h.sh.fn2
  rw [a'] at b
  have r0 : n.S.rise 0 = 0 := h.sh.rise_eq (m := 0) (by omega) (Int.le_refl _) (Int.le_refl _) (by omega) fun z => absurd z (Int.lt_irrefl _)
  rw [← b]
  unfold Sh.ofSteps
  rw [if_neg (by omega), r0]
  simp [Sh.zero]
def movedN (n : Nm) (d : Int) : Nm := if n.st = 2 then n else if absI (n.rank + d) > n.S.last then n else if n.rank + d = 0 then n.S.zero n.s else rankN n.S (n.rank + d)
theorem moved_ok {n : Nm} (h : n.Ok) (h0 : n.st ≠ 2) {d : Int} (h1 : -n.S.last ≤ n.rank + d) (h2 : n.rank + d ≤ n.S.last) : (movedN n d).Ok ∧ (movedN n d).rank = n.rank + d ∧ (movedN n d).S = n.S ∧ (movedN n d).st ≠ 2 ∧ ((movedN n d).st = 1 ↔ absI (n.rank + d) = n.S.last) ∧ (n.rank + d ≠ 0 → movedN n d = rankN n.S (n.rank + d)) ∧ (n.rank + d = 0 → movedN n d = n.S.zero n.s) := by
  have a1 : ¬ absI (n.rank + d) > n.S.last := by unfold absI; split <;> omega
  have l4 := h.sh.last4
  have f2 := h.sh.fn2
  unfold movedN
  rw [if_neg h0, if_neg a1]
  by_cases hz : n.rank + d = 0
  · rw [if_pos hz, hz]
    refine ⟨h.sh.zeroOk h.s01, ?_, rfl, (fun z => nomatch (show (0 : Nat) = 2 from z)), ?_, fun z => absurd rfl z, fun _ => rfl⟩
    · show (if n.s = 1 then -((0 : Int) + (n.S.lo - n.S.lo) * n.S.fn) else (0 : Int) + (n.S.lo - n.S.lo) * n.S.fn) = 0
      rw [Int.sub_self, Int.zero_mul]
      split <;> rfl
    · constructor
      · intro z; exact nomatch (show (0 : Nat) = 1 from z)
      · intro z
        have : absI 0 = 0 := rfl
        omega
  · rw [if_neg hz]
    obtain ⟨a, b, c, d', e, _⟩ := rankN_ok h.sh h1 h2
    exact ⟨a, b, c, d', e, fun _ => rfl, fun z => absurd z hz⟩
theorem rank_fin {n : Nm} (h : n.Ok) (h0 : n.st = 0) : -n.S.last < n.rank ∧ n.rank < n.S.last := by
  have a := h.stp0
  have b := h.stpL
  rcases Nm.rank_of h h0 with ⟨_, e⟩ | ⟨_, e⟩ <;> rw [e] <;> omega
/-! ### words -/
def wordN (S : Sh) (w : Int) : Nm := if w % S.sgnW > S.topW then S.nan else S.ofSteps (w % S.sgnW) (w / S.sgnW)
theorem wst_lt {n : Nm} (h : n.Ok) (h0 : n.st ≠ 2) : 0 ≤ n.wst ∧ n.wst ≤ n.S.topW ∧ n.S.topW < n.S.sgnW := by
  have a := h.stp0
  have b := h.stpL
  have c := h.sh.lastTop
  have d := h.sh.topSgn
  have f2 := h.sh.fn2
  have l4 := h.sh.last4
  unfold Nm.wst
  split <;> omega
theorem word_dm {n : Nm} (h : n.Ok) (h0 : n.st ≠ 2) : n.word / n.S.sgnW = n.s ∧ n.word % n.S.sgnW = n.wst ∧ 0 ≤ n.word ∧ n.word ≤ 2 * n.S.sgnW - 1 := by
  obtain ⟨a, b, c⟩ := wst_lt h h0
  have := h.s01
  unfold Nm.word
  rw [if_neg h0]
  by_cases e : n.s = 1
  · rw [if_pos e]
    have e1 : n.wst + n.S.sgnW = n.wst + 1 * n.S.sgnW := by omega
    refine ⟨?_, ?_, by omega, by omega⟩
    · rw [e1, Int.add_mul_ediv_right _ _ (by omega), Int.ediv_eq_zero_of_lt a (by omega)]
      omega
    · rw [e1, Int.add_mul_emod_self_right, Int.emod_eq_of_lt a (by omega)]
  · rw [if_neg e]
    refine ⟨?_, ?_, by omega, by omega⟩
    · rw [Int.ediv_eq_zero_of_lt a (by omega)]
      omega
    · rw [Int.emod_eq_of_lt a (by omega)]
end Dw

set_option Elab.async false
set_option linter.all false
namespace Dw
open PySem
/-- the value of k steps, scaled -/
def Sh.fk (S : Sh) (k : Int) : Int := (k - S.rise k * S.fn) * wt (S.lo + S.rise k)
theorem Sh.Ok.fk_step {S : Sh} (h : S.Ok) {k : Int} (k0 : 0 ≤ k) : S.fk (k + 1) - S.fk k = wt (S.lo + S.rise k) := by
  obtain ⟨r, m, e1, r0, m0, m1, hn, er⟩ := h.parts k0
  have f2 := h.fn2
  have l0 := h.l0
  unfold Sh.fk
  rw [er, show k - r * S.fn = m from by omega]
  by_cases hm : m + 1 < 2 * S.fn
  · have e2 : S.rise (k + 1) = r := h.rise_eq (m := m + 1) (by omega) r0 (by omega) hm fun z => by have := hn z; omega
    rw [e2, show k + 1 - r * S.fn = m + 1 from by omega, Int.add_mul, Int.one_mul]
    omega
  · have e3 : k + 1 = S.fn + (r + 1) * S.fn := by rw [Int.add_mul, Int.one_mul]; omega
    have e2 : S.rise (k + 1) = r + 1 := h.rise_eq e3 (by omega) (by omega) (by omega) fun _ => Int.le_refl _
    rw [e2, show k + 1 - (r + 1) * S.fn = S.fn from by omega, show S.lo + (r + 1) = S.lo + r + 1 from by omega, wt_succ (by omega)]
    have e4 : m = 2 * S.fn - 1 := by omega
    rw [e4, Int.sub_mul, Int.one_mul, ← Int.mul_assoc, Int.mul_comm S.fn 2]
    omega
theorem Nm.Ok.fk_eq {n : Nm} (h : n.Ok) : n.m * wt n.e = n.S.fk n.stp := by
  unfold Sh.fk
  rw [h.rise, show n.S.lo + (n.e - n.S.lo) = n.e from by omega]
  unfold Nm.stp
  rw [show n.m + (n.e - n.S.lo) * n.S.fn - (n.e - n.S.lo) * n.S.fn = n.m from by omega]
theorem Sh.Ok.fk0 {S : Sh} (h : S.Ok) : S.fk 0 = 0 ∧ S.rise 0 = 0 := by
  have f2 := h.fn2
  have r0 : S.rise 0 = 0 := h.rise_eq (m := 0) (by omega) (Int.le_refl _) (Int.le_refl _) (by omega) fun z => absurd z (Int.lt_irrefl _)
  unfold Sh.fk
  rw [r0, Int.zero_mul]
  exact ⟨by rw [Int.sub_self, Int.zero_mul], rfl⟩
theorem sc_fk {n : Nm} (h : n.Ok) (h0 : n.st = 0) : (n.s = 1 ∧ n.rank = -n.stp ∧ n.sc = -n.S.fk n.stp) ∨ (n.s = 0 ∧ n.rank = n.stp ∧ n.sc = n.S.fk n.stp) := by
  have e := h.fk_eq
  rcases Nm.sc_of h with ⟨s1, c1⟩ | ⟨s1, c1⟩ <;> rcases Nm.rank_of h h0 with ⟨s2, r1⟩ | ⟨s2, r1⟩ <;> omega
/-- from a finite one to the next: 2 ** gap -/
theorem up_gap {n a : Nm} (h : n.Ok) (h0 : n.st = 0) (ha : a.Ok) (a0 : a.st = 0) (hS : a.S = n.S) (hr : a.rank = n.rank + 1) :
    a.sc - n.sc = wt (if a.rank = 0 ∨ n.rank = 0 then n.S.lo else if n.s = 0 then n.e else a.e) := by
  have pn := h.stp0
  have pa := ha.stp0
  have z0 := h.sh.fk0
  have en : n.S.lo + n.S.rise n.stp = n.e := by rw [h.rise]; omega
  have ea : n.S.lo + n.S.rise a.stp = a.e := by rw [← hS, ha.rise]; omega
  rcases sc_fk h h0 with ⟨s1, r1, c1⟩ | ⟨s1, r1, c1⟩ <;> rcases sc_fk ha a0 with ⟨s2, r2, c2⟩ | ⟨s2, r2, c2⟩ <;> rw [hS] at c2
  · have k : n.stp = a.stp + 1 := by omega
    have st := h.sh.fk_step pa
    rw [← k, ea] at st
    rw [c1, c2]
    by_cases ra : a.rank = 0
    · have e0 : a.stp = 0 := by omega
      rw [if_pos (.inl ra)]
      rw [e0, z0.2] at ea
      rw [show n.S.lo = a.e from by omega]
      omega
    · have rn : ¬ n.rank = 0 := by omega
      rw [if_neg (by omega), if_neg (by omega)]
      omega
  · -- from below nought, or -0, to above
    have k1 : a.stp = 1 ∧ n.stp = 0 ∨ a.stp = 0 ∧ n.stp = 1 := by omega
    have st := h.sh.fk_step (k := 0) (Int.le_refl _)
    rw [z0.2, Int.add_zero, show (0 : Int) + 1 = 1 from rfl] at st
    rw [c1, c2, if_pos (by omega)]
    rcases k1 with ⟨q1, q2⟩ | ⟨q1, q2⟩ <;> rw [q1, q2] <;> omega
  · omega
  · have k : a.stp = n.stp + 1 := by omega
    have st := h.sh.fk_step pn
    rw [← k, en] at st
    rw [c1, c2]
    by_cases rn : n.rank = 0
    · have e0 : n.stp = 0 := by omega
      rw [if_pos (.inr rn)]
      rw [e0, z0.2] at en
      rw [show n.S.lo = n.e from by omega]
      omega
    · rw [if_neg (by omega), if_pos s1]
      omega
def maxI (i j : Int) : Int := if j > i then j else i
def minI (i j : Int) : Int := if j < i then j else i
theorem gap_eq {n a : Nm} (h : n.Ok) (ha : a.Ok) {g : Int} (g0 : -1100 ≤ g) (hg : a.sc - n.sc = wt g) :
    (a.num * n.den - n.num * a.den) * (1 * 2 ^ (maxI 0 (0 - g)).toNat) = 1 * 2 ^ (maxI 0 g).toNat * a.den * n.den := by
  have va := val_sc ha
  have vn := val_sc h
  have w0 : (0 : Int) < 2 ^ 1100 := ip_pos _
  have e : (2 : Int) ^ (maxI 0 g).toNat * 2 ^ 1100 = wt g * 2 ^ (maxI 0 (0 - g)).toNat := by
    unfold wt
    rw [← Int.pow_add, ← Int.pow_add]
    congr 1
    unfold maxI
    split <;> split <;> omega
  rw [Int.one_mul, Int.one_mul]
  generalize (2 : Int) ^ 1100 = W at *
  generalize (2 : Int) ^ (maxI 0 (0 - g)).toNat = G1 at *
  generalize (2 : Int) ^ (maxI 0 g).toNat = G2 at *
  generalize a.num = an at *
  generalize n.num = nn at *
  generalize a.den = ad at *
  generalize n.den = nd at *
  refine Int.eq_of_mul_eq_mul_right (a := W) (by omega) ?_
  have h1 : an * nd * W = a.sc * ad * nd := by rw [Int.mul_right_comm, va]
  have h2 : nn * ad * W = n.sc * ad * nd := by rw [Int.mul_right_comm, vn, Int.mul_right_comm]
  calc (an * nd - nn * ad) * G1 * W = (an * nd * W - nn * ad * W) * G1 := by rw [Int.mul_right_comm, Int.sub_mul]
    _ = (a.sc - n.sc) * ad * nd * G1 := by rw [h1, h2, Int.sub_mul a.sc n.sc ad, Int.sub_mul (a.sc * ad) (n.sc * ad) nd]
    _ = wt g * G1 * ad * nd := by rw [hg, Int.mul_right_comm _ nd G1, Int.mul_right_comm _ ad G1]
    _ = G2 * ad * nd * W := by rw [← e, Int.mul_right_comm G2 W ad, Int.mul_right_comm _ W nd]
theorem num_bits {n : Nm} (h : n.Ok) : n.num.natAbs < 2 ^ 1070 := by
  have hs : n.sx.natAbs < 2 ^ 64 := by
    have := h.m0; have := h.m1; have := h.sh.fnB
    rcases sx_cases n h with ⟨_, e⟩ | ⟨_, e⟩ <;> rw [e] <;> omega
  unfold Nm.num
  split
  · rename_i he
    have e1 := h.e1
    have h1 := h.sh.h1
    rw [Int.natAbs_mul, ip_cast, Int.natAbs_natCast]
    calc n.sx.natAbs * 2 ^ n.e.toNat < 2 ^ 64 * 2 ^ n.e.toNat := Nat.mul_lt_mul_of_pos_right hs (Nat.pow_pos (by decide))
      _ = 2 ^ (64 + n.e.toNat) := by rw [← Nat.pow_add]
      _ ≤ 2 ^ 1070 := Nat.pow_le_pow_right (by decide) (by omega)
  · split
    · exact Nat.pow_pos (by decide)
    · have h2 : (n.sx / 2 ^ n.sp).natAbs ≤ n.sx.natAbs := by
        have hx : n.sx ≠ 0 := by assumption
        obtain ⟨y, ey⟩ := tz_dvd hx (t := n.sp) (Nat.min_le_left _ _)
        have hp := ip_pos n.sp
        have e1 : n.sx / 2 ^ n.sp = y := by
          conv => lhs; rw [ey]
          exact Int.mul_ediv_cancel_left _ (by omega)
        rw [e1]
        conv => rhs; rw [ey]
        rw [Int.natAbs_mul]
        exact Nat.le_mul_of_pos_left _ (by omega)
      exact Nat.lt_of_le_of_lt h2 (Nat.lt_of_lt_of_le hs (Nat.pow_le_pow_right (by decide) (by decide)))
theorem den_bits {n : Nm} (h : n.Ok) : n.den.natAbs < 2 ^ 1101 := by
  obtain ⟨j, e, hj⟩ := den_pow h
  have := h.sh.l0
  rw [e, ip_cast, Int.natAbs_natCast]
  exact Nat.pow_lt_pow_right (by decide) (by omega)
end Dw

set_option Elab.async false
set_option linter.all false
set_option maxRecDepth 100000
/-! numbers on the heap; what the defs of numbers.py promise -/
namespace L2
open PySem PySem.Spec PyProof.Rows Dw
class Stp (H : outParam Hp) (H' : Hp) : Prop where
  s : Same H H'
def Imm : HO → Prop
  | .tup _ => True
  | .ins _ _ _ => True
  | .frz _ _ => True
  | _ => False
class Drw (H : outParam Hp) (H' : Hp) : Prop where
  s : ∀ b o, Imm o → H b = some o → H' b = some o
class Ex (H H' : Hp) : Prop where
  s : ∀ b o, Imm o → H b = some o → H' b = some o
instance Ex.refl (H : Hp) : Ex H H := ⟨fun _ _ _ e => e⟩
instance Ex.stp {H H1 H2 : Hp} [a : Stp H1 H2] [b : Ex H H1] : Ex H H2 := ⟨fun c o i e => a.s c o (b.s c o i e)⟩
instance Ex.drw {H H1 H2 : Hp} [a : Drw H1 H2] [b : Ex H H1] : Ex H H2 := ⟨fun c o i e => a.s c o i (b.s c o i e)⟩
/-- all is kept -/
class Sm (H H' : Hp) : Prop where
  s : Same H H'
instance Sm.refl (H : Hp) : Sm H H := ⟨Same.refl H⟩
instance Sm.stp {H H1 H2 : Hp} [a : Stp H1 H2] [b : Sm H H1] : Sm H H2 := ⟨b.s.trans a.s⟩
theorem SqT.ex {K : PySem.W.Frag} {H H' : Hp} {a : Addr} {xs : List V} (h : SqT K H a xs) (e : Ex H H') : SqT K H' a xs := by
  rcases h with (h | ⟨o, h⟩) | h
  · exact .inl (.inl (e.s _ _ True.intro h))
  · exact .inl (.inr ⟨o, e.s _ _ True.intro h⟩)
  · exact .inr h
def ShAt (K : PySem.W.Frag) (H : Hp) (v : V) (S : Sh) : Prop := S.Ok ∧ ∃ a, v = .ref a ∧ SqT K H a [.int S.p, .int S.lo, .int S.hi]
def TupAt (K : PySem.W.Frag) (H : Hp) (v : V) (xs : List V) : Prop := ∃ a, v = .ref a ∧ SqT K H a xs
theorem TupAt.ex {K : PySem.W.Frag} {H H' : Hp} {v : V} {xs : List V} (h : TupAt K H v xs) (e : Ex H H') : TupAt K H' v xs := let ⟨a, h1, h2⟩ := h; ⟨a, h1, h2.ex e⟩
theorem ShAt.ex {K : PySem.W.Frag} {H H' : Hp} {v : V} {S : Sh} (h : ShAt K H v S) (e : Ex H H') : ShAt K H' v S := let ⟨o, a, h1, h2⟩ := h; ⟨o, a, h1, h2.ex e⟩
theorem ShAt.tup {K : PySem.W.Frag} {H : Hp} {v : V} {S : Sh} (h : ShAt K H v S) : TupAt K H v [.int S.p, .int S.lo, .int S.hi] := h.2
def stS (k : Nat) : Str := if k = 0 then "finite" else if k = 1 then "infinite" else "nan"
theorem stS_nan {k : Nat} (h : k ≤ 2) : decide (stS k = "nan") = decide (k = 2) := by
  have : k = 0 ∨ k = 1 ∨ k = 2 := by omega
  rcases this with rfl | rfl | rfl <;> decide
theorem stS_inf {k : Nat} (h : k ≤ 2) : decide (stS k = "infinite") = decide (k = 1) := by
  have : k = 0 ∨ k = 1 ∨ k = 2 := by omega
  rcases this with rfl | rfl | rfl <;> decide
theorem stS_fin {k : Nat} (h : k ≤ 2) : decide (stS k = "finite") = decide (k = 0) := by
  have : k = 0 ∨ k = 1 ∨ k = 2 := by omega
  rcases this with rfl | rfl | rfl <;> decide
theorem stS_inj {k j : Nat} (h : k ≤ 2) (h' : j ≤ 2) : stS k = stS j ↔ k = j := by
  have h1 : k = 0 ∨ k = 1 ∨ k = 2 := by omega
  have h2 : j = 0 ∨ j = 1 ∨ j = 2 := by omega
  rcases h1 with rfl | rfl | rfl <;> rcases h2 with rfl | rfl | rfl <;> decide
def flds (sh : Addr) (n : Nm) : List (Str × V) := [("own_shape", .ref sh), ("own_sign", .int n.s), ("own_significand", .int n.m), ("own_exponent", .int n.e), ("state", .str (stS n.st))]
/-- a number at v -/
def NumAt (K : PySem.W.Frag) (C : Addr) (H : Hp) (v : V) (n : Nm) : Prop := n.Ok ∧ ∃ a dx sh, v = .ref a ∧ H a = some (.ins C dx (flds sh n)) ∧ SqT K H sh [.int n.S.p, .int n.S.lo, .int n.S.hi]
theorem NumAt.ex {K : PySem.W.Frag} {C : Addr} {H H' : Hp} {v : V} {n : Nm} (h : NumAt K C H v n) (e : Ex H H') : NumAt K C H' v n := by
  obtain ⟨o, a, dx, sh, h1, h2, h3⟩ := h
  exact ⟨o, a, dx, sh, h1, e.s _ _ True.intro h2, h3.ex e⟩
/-- what of the class is asked -/
structure NumC (K : PySem.W.Frag) (C : Addr) : Prop where
  cl : Cls K C
  nSh : NoAttr K C "own_shape"
  nSi : NoAttr K C "own_sign"
  nM : NoAttr K C "own_significand"
  nE : NoAttr K C "own_exponent"
  nSt : NoAttr K C "state"
  ha : PySem.W.findIn K (.ref C) "__class__" = some (some (.builtin "object.__class__"))
  hn : PySem.W.specialIn K (.builtin "object.__class__") "__get__" = some (some (.builtin "getset_descriptor.__get__"))
  htk : PySem.W.takesIn K (.builtin "object.__class__") = some true
  hm : PySem.W.mroIn K C (.type "object") = some true
theorem NumAt.ty {K : PySem.W.Frag} {C : Addr} {H : Hp} {v : V} {n : Nm} (h : NumAt K C H v n) (T : NumC K C) : TyOf K H v (.ref C) := by
  obtain ⟨o, a, dx, sh, rfl, h2, h3⟩ := h
  exact .ins h2 T.cl T.ha T.hn T.htk T.hm
theorem kit_self (K : PySem.W.Frag) (C : Addr) : PySem.W.kitOne K (.ref C) (.ref C) = some true := by unfold PySem.W.kitOne; rw [if_pos (by simp)]
section
variable {K : PySem.W.Frag} {C : Addr} {H H0 H1 : Hp} {Q : VK} {E : XK} {σ : St} {D : Ends} {v w : V} {n n' : Nm} {S : Sh}
/-! ### readings -/
def rFld (K : PySem.W.Frag) (f : Str) (x : V) (H : Hp) (Q : VK) : Prop := ∃ a C dx fs v, x = .ref a ∧ H a = some (.ins C dx fs) ∧ Cls K C ∧ NoAttr K C f ∧ fs.lookup f = some v ∧ Q v H
theorem i_fld {ta : TE} {f : Str} (h : ta σ H fun x H1 => rFld K f x H1 Q) : tFld K ta f σ H Q := h
theorem f_shape (T : NumC K C) (h : NumAt K C H0 v n) (k : ∀ w, ShAt K H w n.S → Q w H) (e : Ex H0 H := by infer_instance) : rFld K "own_shape" v H Q := by
  obtain ⟨o, a, dx, sh, rfl, h2, h3⟩ := h.ex e
  exact ⟨a, C, dx, _, _, rfl, h2, T.cl, T.nSh, rfl, k _ ⟨o.sh, sh, rfl, h3⟩⟩
theorem f_sign (T : NumC K C) (h : NumAt K C H0 v n) (k : Q (.int n.s) H) (e : Ex H0 H := by infer_instance) : rFld K "own_sign" v H Q := by
  obtain ⟨o, a, dx, sh, rfl, h2, h3⟩ := h.ex e
  exact ⟨a, C, dx, _, _, rfl, h2, T.cl, T.nSi, rfl, k⟩
theorem f_m (T : NumC K C) (h : NumAt K C H0 v n) (k : Q (.int n.m) H) (e : Ex H0 H := by infer_instance) : rFld K "own_significand" v H Q := by
  obtain ⟨o, a, dx, sh, rfl, h2, h3⟩ := h.ex e
  exact ⟨a, C, dx, _, _, rfl, h2, T.cl, T.nM, rfl, k⟩
theorem f_e (T : NumC K C) (h : NumAt K C H0 v n) (k : Q (.int n.e) H) (e : Ex H0 H := by infer_instance) : rFld K "own_exponent" v H Q := by
  obtain ⟨o, a, dx, sh, rfl, h2, h3⟩ := h.ex e
  exact ⟨a, C, dx, _, _, rfl, h2, T.cl, T.nE, rfl, k⟩
theorem f_state (T : NumC K C) (h : NumAt K C H0 v n) (k : Q (.str (stS n.st)) H) (e : Ex H0 H := by infer_instance) : rFld K "state" v H Q := by
  obtain ⟨o, a, dx, sh, rfl, h2, h3⟩ := h.ex e
  exact ⟨a, C, dx, _, _, rfl, h2, T.cl, T.nSt, rfl, k⟩
def rMeth (C : Addr) (m : Str) (sp : Sp) (x : V) (H : Hp) (Q : VK) : Prop := ∃ a dx fs, x = .ref a ∧ H a = some (.ins C dx fs) ∧ fs.lookup m = none ∧ sp [x] H Q E0
theorem i_meth0 {ta : TE} {m : Str} {sp : Sp} (h : ta σ H fun x H1 => rMeth C m sp x H1 Q) : tMeth C m sp [] E0 ta tNil σ H Q := h
theorem m_num {m : Str} {sp : Sp} (h : NumAt K C H0 v n) (k : sp [v] H Q E0) (hm : ∀ sh n, (flds sh n).lookup m = none := by intros; with_unfolding_all rfl) (e : Ex H0 H := by infer_instance) : rMeth C m sp v H Q := by
  obtain ⟨o, a, dx, sh, rfl, h2, h3⟩ := h.ex e
  exact ⟨a, dx, _, rfl, h2, hm _ _, k⟩
theorem i_callP {sp : Sp} {gV : List V → List V → List V} {E : XK} {t tk : TA} (h : t σ H fun vs H1 => tk σ H1 fun zs H2 => sp (gV vs zs) H2 Q E) : tCallK sp gV E t tk σ H Q := h
theorem i_eqS {a b : Str} (h : Q (.bl (decide (a = b))) H) : rEq (.str a) (.str b) H Q := ⟨rfl, by
  have e : decide (V.str a = V.str b) = decide (a = b) := by rw [dec_str]; by_cases z : a = b <;> simp [z]
  rw [e]; exact h⟩
theorem i_ite {c : Bool} {A B : Prop} (h1 : c = true → A) (h2 : c = false → B) : if c = true then A else B := by
  cases c with
  | true => exact iteT (h1 rfl)
  | false => exact iteF (h2 rfl)
theorem ifF' {c : Bool} {A B : Prop} (h : c = false) (hb : B) : if c = true then A else B := by
  rw [h]
  exact iteF hb
theorem ifT' {c : Bool} {A B : Prop} (h : c = true) (ha : A) : if c = true then A else B := by
  rw [h]
  exact iteT ha
theorem i_ixTup {xs : List V} {i : Int} {z : V} (h : TupAt K H0 v xs) (k : Q z H) (a : atI xs i = some z := by with_unfolding_all rfl) (e : Ex H0 H := by infer_instance) : rIxT K v (.int i) H Q := by
  obtain ⟨p, rfl, hs⟩ := h.ex e
  exact ⟨p, xs, i, z, rfl, rfl, hs, a, k⟩
theorem i_ixSh0 (h : ShAt K H0 v S) (k : Q (.int S.p) H) (e : Ex H0 H := by infer_instance) : rIxT K v (.int 0) H Q := i_ixTup h.tup k rfl e
theorem i_ixSh1 (h : ShAt K H0 v S) (k : Q (.int S.lo) H) (e : Ex H0 H := by infer_instance) : rIxT K v (.int 1) H Q := i_ixTup h.tup k rfl e
theorem i_ixSh2 (h : ShAt K H0 v S) (k : Q (.int S.hi) H) (e : Ex H0 H := by infer_instance) : rIxT K v (.int 2) H Q := i_ixTup h.tup k rfl e
theorem g_sh3 {i j k : Nat} {R : St → Hp → Prop} (h : ShAt K H0 v S) (q : R (((σ.set i (some (.int S.p))).set j (some (.int S.lo))).set k (some (.int S.hi))) H) (e : Ex H0 H := by infer_instance) : gTup K 3 (gCons (gName i) (gCons (gName j) (gCons (gName k) gNil))) v σ H R := by
  obtain ⟨p, rfl, hs⟩ := h.tup.ex e
  exact ⟨p, _, rfl, hs, rfl, _, _, rfl, _, _, rfl, _, _, rfl, rfl, q⟩
theorem g_two {i j : Nat} {x y : V} {R : St → Hp → Prop} (h : TupAt K H0 v [x, y]) (q : R ((σ.set i (some x)).set j (some y)) H) (e : Ex H0 H := by infer_instance) : gTup K 2 (gCons (gName i) (gCons (gName j) gNil)) v σ H R := by
  obtain ⟨p, rfl, hs⟩ := h.ex e
  exact ⟨p, _, rfl, hs, rfl, _, _, rfl, _, _, rfl, rfl, q⟩
theorem i_born2 {x y : V} {n : Nat} (h : ∀ p H', Stp H H' → TupAt K H' p [x, y] → Q p H') (p : Nat.ble 2 n = true) : [x, y].length ≤ n ∧ Born H (.tup [x, y]) Q := ⟨Nat.le_of_ble_eq_true p, fun p H' _ s e => h (.ref p) H' ⟨s⟩ ⟨p, rfl, SqT.of e⟩⟩
theorem i_bornT {xs : List V} {n : Nat} (p : Nat.ble xs.length n = true) (h : ∀ p H', Stp H H' → TupAt K H' p xs → Q p H') : xs.length ≤ n ∧ Born H (.tup xs) Q := ⟨Nat.le_of_ble_eq_true p, fun p H' _ s e => h (.ref p) H' ⟨s⟩ ⟨p, rfl, SqT.of e⟩⟩
/-- some int operations, their sides by omega -/
theorem i_mul {i j : Int} (h : Q (.int (i * j)) H) (c : CMul i j := by first | exact cm_r (by omega) (by omega) | exact cm_l (by omega) (by omega)) : rI CMul (fun i j => .int (i * j)) (.int i) (.int j) H Q := ⟨i, j, rfl, rfl, c, h⟩
theorem i_shl {i j : Int} (h : Q (.int (i * 2 ^ j.toNat)) H) (c : CPow i j := by exact cp_lit (by omega) (by omega) (by first | decide | omega)) : rI CPow (fun i j => .int (i * 2 ^ j.toNat)) (.int i) (.int j) H Q := ⟨i, j, rfl, rfl, c, h⟩
theorem i_bm0 {T : String} {r : V → List V → Hp → VK → Prop} {to : TE} (h : to σ H fun x H1 => tyV K T x H1 ∧ r x [] H1 Q) : tBM0 K T r to σ H Q := h
def rBits (x : V) (xs : List V) (H : Hp) (Q : VK) : Prop := ∃ i, x = .int i ∧ xs = [] ∧ Q (.int (Builtin.Int.intBits i : Nat)) H
theorem mt_bitsM {X : Cx} : MtR X "int.bit_length" rBits := mt_bits
theorem i_bits {i : Int} (h : Q (.int (Builtin.Int.intBits i : Nat)) H) : tyV K "int" (.int i) H ∧ rBits (.int i) [] H Q := ⟨rfl, i, rfl, rfl, h⟩
def rMaxI (xs : List V) (H : Hp) (Q : VK) : Prop := ∃ i j, xs = [.int i, .int j] ∧ Q (.int (if j > i then j else i)) H
def rMinI (xs : List V) (H : Hp) (Q : VK) : Prop := ∃ i j, xs = [.int i, .int j] ∧ Q (.int (if j < i then j else i)) H
def rAbsI (xs : List V) (H : Hp) (Q : VK) : Prop := ∃ i, xs = [.int i] ∧ Q (.int (if i < 0 then -i else i)) H
theorem call_maxM {X : Cx} (hc : X.calm = true) : CallR X (.builtin "max") rMaxI := call_max2 hc
theorem call_minM {X : Cx} (hc : X.calm = true) : CallR X (.builtin "min") rMinI := call_min2 hc
theorem call_absM {X : Cx} : CallR X (.builtin "abs") rAbsI := call_abs
theorem i_max {i j : Int} (h : Q (.int (maxI i j)) H) : rMaxI [.int i, .int j] H Q := ⟨i, j, rfl, h⟩
theorem i_min {i j : Int} (h : Q (.int (minI i j)) H) : rMinI [.int i, .int j] H Q := ⟨i, j, rfl, h⟩
theorem i_abs {i : Int} (h : Q (.int (absI i)) H) : rAbsI [.int i] H Q := ⟨i, rfl, h⟩
/-! ### promises -/
def spF {α : Type} (args : α → List V) (R : α → Hp → VK → Prop) : Sp := fun vs H Q _ => ∃ x, vs = args x ∧ R x H Q
theorem spF.len {α : Type} {args : α → List V} {R : α → Hp → VK → Prop} {k : Nat} (h : ∀ x, (args x).length = k) : ∀ vs H Q E, spF args R vs H Q E → vs.length = k := by
  rintro vs H Q E ⟨x, rfl, _⟩
  exact h x
def spWantWhole : Sp := spF (fun x : Int × Int × Int × Str => [.int x.1, .int x.2.1, .int x.2.2.1, .str x.2.2.2]) fun x H Q => x.2.1 ≤ x.1 ∧ x.1 ≤ x.2.2.1 ∧ Q .non H
def spWantShape (K : PySem.W.Frag) : Sp := spF (fun x : V × Sh => [x.1]) fun x H Q => ShAt K H x.1 x.2 ∧ Q .non H
def spShInt (K : PySem.W.Frag) (f : Sh → Int) : Sp := spF (fun x : V × Sh => [x.1]) fun x H Q => ShAt K H x.1 x.2 ∧ Q (.int (f x.2)) H
def spNmInt (K : PySem.W.Frag) (C : Addr) (f : Nm → Int) : Sp := spF (fun x : V × Nm => [x.1]) fun x H Q => NumAt K C H x.1 x.2 ∧ Q (.int (f x.2)) H
def spShapeM (K : PySem.W.Frag) (C : Addr) : Sp := spF (fun x : V × Nm => [x.1]) fun x H Q => NumAt K C H x.1 x.2 ∧ ∀ w, ShAt K H w x.2.S → Q w H
def kindS (n : Nm) : Str := if n.st = 0 then (if n.m = 0 then "zero" else if n.m < n.S.fn then "subnormal" else "normal") else stS n.st
def spKind (K : PySem.W.Frag) (C : Addr) : Sp := spF (fun x : V × Nm => [x.1]) fun x H Q => NumAt K C H x.1 x.2 ∧ Q (.str (kindS x.2)) H
def spParts (K : PySem.W.Frag) (C : Addr) : Sp := spF (fun x : V × Nm => [x.1]) fun x H Q => NumAt K C H x.1 x.2 ∧ x.2.st = 0 ∧ ∀ w H', Stp H H' → TupAt K H' w [.int x.2.m, .int x.2.e] → Q w H'
def spValue (K : PySem.W.Frag) (C : Addr) : Sp := spF (fun x : V × Nm => [x.1]) fun x H Q => NumAt K C H x.1 x.2 ∧ x.2.st = 0 ∧ ∀ w H', Stp H H' → TupAt K H' w [.int x.2.num, .int x.2.den] → Q w H'
def spRank (K : PySem.W.Frag) (C : Addr) : Sp := spF (fun x : V × Nm => [x.1]) fun x H Q => NumAt K C H x.1 x.2 ∧ x.2.st ≠ 2 ∧ ∀ H', Stp H H' → Q (.int x.2.rank) H'
def spSteps (K : PySem.W.Frag) (C : Addr) : Sp := spF (fun x : V × Nm => [x.1]) fun x H Q => NumAt K C H x.1 x.2 ∧ x.2.st ≠ 2 ∧ ∀ H', Stp H H' → Q (.int x.2.steps) H'
def spWord (K : PySem.W.Frag) (C : Addr) : Sp := spF (fun x : V × Nm => [x.1]) fun x H Q => NumAt K C H x.1 x.2 ∧ ∀ H', Stp H H' → Q (.int x.2.word) H'
def spNmNm (K : PySem.W.Frag) (C : Addr) (f : Nm → Nm) : Sp := spF (fun x : V × Nm => [x.1]) fun x H Q => NumAt K C H x.1 x.2 ∧ ∀ w H', Stp H H' → NumAt K C H' w (f x.2) → Q w H'
def spEq (K : PySem.W.Frag) (C : Addr) : Sp := spF (fun x : V × V × Nm × Nm => [x.1, x.2.1]) fun x H Q => NumAt K C H x.1 x.2.2.1 ∧ NumAt K C H x.2.1 x.2.2.2 ∧ Q (.bl (decide (x.2.2.1 = x.2.2.2))) H
def spInf (K : PySem.W.Frag) (C : Addr) : Sp := spF (fun x : V × Int × Sh => [x.1, .int x.2.1]) fun x H Q => ShAt K H x.1 x.2.2 ∧ (x.2.1 = 0 ∨ x.2.1 = 1) ∧ ∀ w H', Stp H H' → NumAt K C H' w (x.2.2.inf x.2.1) → Q w H'
def spNan (K : PySem.W.Frag) (C : Addr) : Sp := spF (fun x : V × Sh => [x.1]) fun x H Q => ShAt K H x.1 x.2 ∧ ∀ w H', Stp H H' → NumAt K C H' w x.2.nan → Q w H'
def spByRank (K : PySem.W.Frag) (C : Addr) : Sp := spF (fun x : Int × V × Sh => [.int x.1, x.2.1]) fun x H Q => ShAt K H x.2.1 x.2.2 ∧ -x.2.2.last ≤ x.1 ∧ x.1 ≤ x.2.2.last ∧ ∀ w H', Stp H H' → NumAt K C H' w (rankN x.2.2 x.1) → Q w H'
def wordK (S : Sh) (k s : Int) : Nm := if k > S.topW then S.nan else if k = S.topW then S.inf s else S.ofSteps k s
def spByWord (K : PySem.W.Frag) (C : Addr) : Sp := spF (fun x : Int × V × Sh => [.int x.1, x.2.1]) fun x H Q => ShAt K H x.2.1 x.2.2 ∧ 0 ≤ x.1 ∧ x.1 ≤ 2 * x.2.2.sgnW - 1 ∧ (x.2.2.topW ≤ x.1 % x.2.2.sgnW ∨ x.1 % x.2.2.sgnW < x.2.2.last) ∧ ∀ w H', Stp H H' → NumAt K C H' w (wordK x.2.2 (x.1 % x.2.2.sgnW) (x.1 / x.2.2.sgnW)) → Q w H'
def spCompare (K : PySem.W.Frag) (C : Addr) : Sp := spF (fun x : V × V × Nm × Nm => [x.1, x.2.1]) fun x H Q => NumAt K C H x.1 x.2.2.1 ∧ NumAt K C H x.2.1 x.2.2.2 ∧ x.2.2.1.st ≠ 2 ∧ x.2.2.2.st ≠ 2 ∧ ∀ H', Stp H H' → Q (.int (cmpN x.2.2.1 x.2.2.2)) H'
def spBetween (K : PySem.W.Frag) (C : Addr) : Sp := spF (fun x : V × V × Nm × Nm => [x.1, x.2.1]) fun x H Q => NumAt K C H x.1 x.2.2.1 ∧ NumAt K C H x.2.1 x.2.2.2 ∧ x.2.2.1.st ≠ 2 ∧ x.2.2.2.st ≠ 2 ∧ x.2.2.1.S = x.2.2.2.S ∧ ∀ H', Stp H H' → Q (.int (maxI 0 (absI (x.2.2.1.rank - x.2.2.2.rank) - 1))) H'
def spWantNumber (K : PySem.W.Frag) (C : Addr) : Sp := spF (fun x : V × Nm => [x.1]) fun x H Q => NumAt K C H x.1 x.2 ∧ Q .non H
def spBySteps (K : PySem.W.Frag) (C : Addr) : Sp := spF (fun x : Int × V × Int × Sh => [.int x.1, x.2.1, .int x.2.2.1]) fun x H Q => ShAt K H x.2.1 x.2.2.2 ∧ (x.2.2.1 = 0 ∨ x.2.2.1 = 1) ∧ 0 ≤ x.1 ∧ x.1 ≤ x.2.2.2.last ∧ ∀ w H', Stp H H' → NumAt K C H' w (x.2.2.2.ofSteps x.1 x.2.2.1) → Q w H'
def spMoved (K : PySem.W.Frag) (C : Addr) : Sp := spF (fun x : V × Int × Nm => [x.1, .int x.2.1]) fun x H Q => NumAt K C H x.1 x.2.2 ∧ (x.2.1 = 1 ∨ x.2.1 = -1) ∧ ∀ w H', Stp H H' → NumAt K C H' w (movedN x.2.2 x.2.1) → Q w H'
def hvN (x : Int) (k : Nat) : Int := if x = 0 then 0 else x / 2 ^ (min (tz x) k)
def hvD (x : Int) (k : Nat) : Int := if x = 0 then 1 else 2 ^ (k - min (tz x) k)
def spHalved (K : PySem.W.Frag) : Sp := spF (fun x : Int × Nat => [.int x.1, .int x.2]) fun x H Q => x.2 ≤ 100000 ∧ ∀ w H', Stp H H' → TupAt K H' w [.int (hvN x.1 x.2), .int (hvD x.1 x.2)] → Q w H'
def spOrder : Sp := spF (fun x : Int × Int => [.int x.1, .int x.2]) fun x H Q => Q (.int (sgn x.1 x.2)) H
/-- Number(..): self, shape, sign, significand, exponent (None: the least) -/
def spInit (K : PySem.W.Frag) (C : Addr) : Sp := spF (fun x : Addr × Addr × V × Nm × Bool => [.ref x.1, x.2.2.1, .int x.2.2.2.1.s, .int x.2.2.2.1.m, if x.2.2.2.2 then .non else .int x.2.2.2.1.e]) fun x H Q =>
  H x.1 = some (.ins C x.2.1 []) ∧ ShAt K H x.2.2.1 x.2.2.2.1.S ∧ x.2.2.2.1.Ok ∧ x.2.2.2.1.st = 0 ∧ (x.2.2.2.2 = true → x.2.2.2.1.e = x.2.2.2.1.S.lo) ∧
    ∀ sh H', x.2.2.1 = .ref sh → (∀ b o, b ≠ x.1 → H b = some o → H' b = some o) → H' x.1 = some (.ins C x.2.1 (flds sh x.2.2.2.1)) → Q .non H'
theorem c_whole {i lo hi : Int} {z : Str} (k : Q .non H) (h1 : lo ≤ i := by omega) (h2 : i ≤ hi := by omega) : spWantWhole [.int i, .int lo, .int hi, .str z] H Q E := ⟨⟨i, lo, hi, z⟩, rfl, h1, h2, k⟩
theorem c_shape (h : ShAt K H0 v S) (k : Q .non H) (e : Ex H0 H := by infer_instance) : spWantShape K [v] H Q E := ⟨⟨v, S⟩, rfl, h.ex e, k⟩
theorem c_shint {f : Sh → Int} (h : ShAt K H0 v S) (k : Q (.int (f S)) H) (e : Ex H0 H := by infer_instance) : spShInt K f [v] H Q E := ⟨⟨v, S⟩, rfl, h.ex e, k⟩
theorem c_nmint {f : Nm → Int} (h : NumAt K C H0 v n) (k : Q (.int (f n)) H) (e : Ex H0 H := by infer_instance) : spNmInt K C f [v] H Q E := ⟨⟨v, n⟩, rfl, h.ex e, k⟩
theorem c_shapeM (h : NumAt K C H0 v n) (k : ∀ w, ShAt K H w n.S → Q w H) (e : Ex H0 H := by infer_instance) : spShapeM K C [v] H Q E := ⟨⟨v, n⟩, rfl, h.ex e, k⟩
theorem c_kind (h : NumAt K C H0 v n) (k : Q (.str (kindS n)) H) (e : Ex H0 H := by infer_instance) : spKind K C [v] H Q E := ⟨⟨v, n⟩, rfl, h.ex e, k⟩
theorem c_parts (h : NumAt K C H0 v n) (k : ∀ w H', Stp H H' → TupAt K H' w [.int n.m, .int n.e] → Q w H') (h0 : n.st = 0 := by first | assumption | omega) (e : Ex H0 H := by infer_instance) : spParts K C [v] H Q E := ⟨⟨v, n⟩, rfl, h.ex e, h0, k⟩
theorem c_value (h : NumAt K C H0 v n) (k : ∀ w H', Stp H H' → TupAt K H' w [.int n.num, .int n.den] → Q w H') (h0 : n.st = 0 := by first | assumption | omega) (e : Ex H0 H := by infer_instance) : spValue K C [v] H Q E := ⟨⟨v, n⟩, rfl, h.ex e, h0, k⟩
theorem c_rank (h : NumAt K C H0 v n) (k : ∀ H', Stp H H' → Q (.int n.rank) H') (h0 : n.st ≠ 2 := by first | assumption | omega) (e : Ex H0 H := by infer_instance) : spRank K C [v] H Q E := ⟨⟨v, n⟩, rfl, h.ex e, h0, k⟩
theorem c_steps (h : NumAt K C H0 v n) (k : ∀ H', Stp H H' → Q (.int n.steps) H') (h0 : n.st ≠ 2 := by first | assumption | omega) (e : Ex H0 H := by infer_instance) : spSteps K C [v] H Q E := ⟨⟨v, n⟩, rfl, h.ex e, h0, k⟩
theorem c_word (h : NumAt K C H0 v n) (k : ∀ H', Stp H H' → Q (.int n.word) H') (e : Ex H0 H := by infer_instance) : spWord K C [v] H Q E := ⟨⟨v, n⟩, rfl, h.ex e, k⟩
theorem c_nmnm {f : Nm → Nm} (h : NumAt K C H0 v n) (k : ∀ w H', Stp H H' → NumAt K C H' w (f n) → Q w H') (e : Ex H0 H := by infer_instance) : spNmNm K C f [v] H Q E := ⟨⟨v, n⟩, rfl, h.ex e, k⟩
theorem c_eq {C : Addr} (h : NumAt K C H0 v n) (h' : NumAt K C H1 w n') (k : Q (.bl (decide (n = n'))) H) (e : Ex H0 H := by infer_instance) (e' : Ex H1 H := by infer_instance) : rEqO C (spEq K C) v w H Q := by
  obtain ⟨o, a, dx, sh, rfl, h2, h3⟩ := id (h.ex e)
  obtain ⟨o', b, dx', sh', rfl, h2', h3'⟩ := id (h'.ex e')
  exact ⟨a, b, dx, _, dx', _, rfl, rfl, h2, h2', ⟨_, _, n, n'⟩, rfl, h.ex e, h'.ex e', _, rfl, k⟩
theorem c_ne {C : Addr} (h : NumAt K C H0 v n) (h' : NumAt K C H1 w n') (k : Q (.bl (!decide (n = n'))) H) (e : Ex H0 H := by infer_instance) (e' : Ex H1 H := by infer_instance) : rNeO C (spEq K C) v w H Q := by
  obtain ⟨o, a, dx, sh, rfl, h2, h3⟩ := id (h.ex e)
  obtain ⟨o', b, dx', sh', rfl, h2', h3'⟩ := id (h'.ex e')
  exact ⟨a, b, dx, _, dx', _, rfl, rfl, h2, h2', ⟨_, _, n, n'⟩, rfl, h.ex e, h'.ex e', _, rfl, k⟩
theorem c_inf {s : Int} (h : ShAt K H0 v S) (k : ∀ w H', Stp H H' → NumAt K C H' w (S.inf s) → Q w H') (hs : s = 0 ∨ s = 1 := by first | assumption | omega) (e : Ex H0 H := by infer_instance) : spInf K C [v, .int s] H Q E := ⟨⟨v, s, S⟩, rfl, h.ex e, hs, k⟩
theorem c_nan (h : ShAt K H0 v S) (k : ∀ w H', Stp H H' → NumAt K C H' w S.nan → Q w H') (e : Ex H0 H := by infer_instance) : spNan K C [v] H Q E := ⟨⟨v, S⟩, rfl, h.ex e, k⟩
theorem c_byRank {r : Int} (h : ShAt K H0 v S) (h1 : -S.last ≤ r) (h2 : r ≤ S.last) (k : ∀ w H', Stp H H' → NumAt K C H' w (rankN S r) → Q w H') (e : Ex H0 H := by infer_instance) : spByRank K C [.int r, v] H Q E := ⟨⟨r, v, S⟩, rfl, h.ex e, h1, h2, k⟩
theorem c_byWord {x : Int} (h : ShAt K H0 v S) (h1 : 0 ≤ x) (h2 : x ≤ 2 * S.sgnW - 1) (h3 : S.topW ≤ x % S.sgnW ∨ x % S.sgnW < S.last) (k : ∀ w H', Stp H H' → NumAt K C H' w (wordK S (x % S.sgnW) (x / S.sgnW)) → Q w H') (e : Ex H0 H := by infer_instance) : spByWord K C [.int x, v] H Q E := ⟨⟨x, v, S⟩, rfl, h.ex e, h1, h2, h3, k⟩
theorem c_compare (h : NumAt K C H0 v n) (h' : NumAt K C H1 w n') (k : ∀ H', Stp H H' → Q (.int (cmpN n n')) H') (h0 : n.st ≠ 2 := by first | assumption | omega) (h1 : n'.st ≠ 2 := by first | assumption | omega) (e : Ex H0 H := by infer_instance) (e' : Ex H1 H := by infer_instance) : spCompare K C [v, w] H Q E :=
  ⟨⟨v, w, n, n'⟩, rfl, h.ex e, h'.ex e', h0, h1, k⟩
theorem c_between (h : NumAt K C H0 v n) (h' : NumAt K C H1 w n') (hS : n.S = n'.S) (k : ∀ H', Stp H H' → Q (.int (maxI 0 (absI (n.rank - n'.rank) - 1))) H') (h0 : n.st ≠ 2 := by first | assumption | omega) (h1 : n'.st ≠ 2 := by first | assumption | omega) (e : Ex H0 H := by infer_instance) (e' : Ex H1 H := by infer_instance) : spBetween K C [v, w] H Q E :=
  ⟨⟨v, w, n, n'⟩, rfl, h.ex e, h'.ex e', h0, h1, hS, k⟩
theorem c_wantNum (h : NumAt K C H0 v n) (k : Q .non H) (e : Ex H0 H := by infer_instance) : spWantNumber K C [v] H Q E := ⟨⟨v, n⟩, rfl, h.ex e, k⟩
theorem c_bySteps {i s : Int} (h : ShAt K H0 v S) (h1 : 0 ≤ i) (h2 : i ≤ S.last) (k : ∀ w H', Stp H H' → NumAt K C H' w (S.ofSteps i s) → Q w H') (hs : s = 0 ∨ s = 1 := by first | assumption | omega) (e : Ex H0 H := by infer_instance) : spBySteps K C [.int i, v, .int s] H Q E := ⟨⟨i, v, s, S⟩, rfl, h.ex e, hs, h1, h2, k⟩
theorem c_moved {d : Int} (h : NumAt K C H0 v n) (k : ∀ w H', Stp H H' → NumAt K C H' w (movedN n d) → Q w H') (hd : d = 1 ∨ d = -1 := by decide) (e : Ex H0 H := by infer_instance) : spMoved K C [v, .int d] H Q E := ⟨⟨v, d, n⟩, rfl, h.ex e, hd, k⟩
theorem c_order {i j : Int} (k : Q (.int (sgn i j)) H) : spOrder [.int i, .int j] H Q E := ⟨⟨i, j⟩, rfl, k⟩
end
theorem cx_K {CX : CXT} {P : Program} {w : World} {K : PySem.W.Frag} {mg : Str → Option Value} {base : Heap} {N : List Str} {qual : Str} {scope : Scope} {f : Addr} {cd : Value} {A : Around} {outer : List Env} {s : Shared} {H : Hp} {E : XK} :
    (cxOf CX P w K mg base N qual scope f cd A outer s H E).nox.K = K := rfl
theorem cx_K2 {CX : CXT} {P : Program} {w : World} {K : PySem.W.Frag} {mg : Str → Option Value} {base : Heap} {N : List Str} {qual : Str} {scope : Scope} {f : Addr} {cd : Value} {A : Around} {outer : List Env} {s : Shared} {H : Hp} {E : XK} :
    (cxOf CX P w K mg base N qual scope f cd A outer s H E).K = K := rfl
/-- a text of the module's own -/
structure GStr (mg : Str → Option Value) (x z : Str) : Prop where
  at_ : ∃ t, mg x = some (.str z t)
theorem we_gstr {X : Cx} {x z : Str} {pos : Pos} (G : GStr X.mg x z) (hg : Gl X x) (hd : (x == ("__debug__" : Str)) = false := by decide) : Wr (PE X (.Name x pos) (tC (.str z))) := by
  obtain ⟨t, e⟩ := G.at_
  exact we_glob hg e ⟨_, rfl⟩ hd
theorem we_gref {X : Cx} {x : Str} {a : Addr} {pos : Pos} (hg : Gl X x) (hm : X.mg x = some (.ref a)) (hd : (x == ("__debug__" : Str)) = false := by decide) : Wr (PE X (.Name x pos) (tC (.ref a))) := we_glob hg hm rfl hd
end L2

set_option Elab.async false
set_option linter.all false
set_option maxRecDepth 100000
namespace L2
open PySem PySem.Spec PyProof.Rows Dw
section
variable {K : PySem.W.Frag} {C : Addr} {H H0 H1 H' : Hp} {Q : VK} {E : XK} {σ : St} {D : Ends} {v w x : V} {n n' : Nm} {S S' : Sh}
def rIsN : R2 := fun x y H Q => y = .non ∧ Q (.bl (decide (x = .non))) H
def rNotN : R2 := fun x y H Q => y = .non ∧ Q (.bl (!decide (x = .non))) H
theorem op_isNM {X : Cx} : OpR X (compareOp .Is) rIsN := op_isN
theorem i_isNN (h : Q (.bl true) H) : rIsN .non .non H Q := ⟨rfl, h⟩
theorem i_isNI {i : Int} (h : Q (.bl false) H) : rIsN (.int i) .non H Q := ⟨rfl, h⟩
theorem fin (q : ∀ H', Stp H H' → Q x H') (e : Sm H H' := by infer_instance) : Q x H' := q H' ⟨e.s⟩
theorem finN (q : ∀ w H', Stp H H' → NumAt K C H' w n → Q w H') (h : NumAt K C H0 w n) (e : Ex H0 H' := by infer_instance) (s : Sm H H' := by infer_instance) : Q w H' := q w H' ⟨s.s⟩ (h.ex e)
/-- e.f = value -/
def rSFld (K : PySem.W.Frag) (f : Str) (y x : V) (H : Hp) (R : Hp → Prop) : Prop := ∃ a C dx fs, x = .ref a ∧ H a = some (.ins C dx fs) ∧ Cls K C ∧ NoAttr K C f ∧ fs.length < 1000 ∧ R (upd H a (.ins C dx (putF f y fs)))
theorem i_sfld {ta tv : TE} {f : Str} (h : tv σ H fun y H1 => ta σ H1 fun x H2 => rSFld K f y x H2 fun H3 => D.nx σ H3) : sFld K ta tv f D σ H := h
theorem s_fld {f : Str} {y : V} {R : Hp → Prop} {a dx : Addr} {fs : List (Str × V)} (hx : H a = some (.ins C dx fs)) (cl : Cls K C) (nf : NoAttr K C f) (hl : fs.length < 1000) (k : ∀ H', (∀ b o, b ≠ a → H b = some o → H' b = some o) → H' a = some (.ins C dx (putF f y fs)) → R H') : rSFld K f y (.ref a) H R :=
  ⟨a, C, dx, fs, rfl, hx, cl, nf, hl, k _ (fun b o hb e => by rw [upd_ne hb]; exact e) upd_same⟩
def rMake (C : Addr) (sp : Sp) (gV : List V → List V → List V) (vs zs : List V) (H : Hp) (Q : VK) : Prop := ∀ x dx, H x = none → H dx = none → dx ≠ x →
  sp (gV (.ref x :: vs) zs) (upd (upd H dx (.own x)) x (.ins C dx [])) (fun v H3 => v = .non ∧ Q (.ref x) H3) E0
theorem i_make {sp : Sp} {gV : List V → List V → List V} {t tk : TA} (h : t σ H fun vs H1 => tk σ H1 fun zs H2 => rMake C sp gV vs zs H2 Q) : tMakeK C sp gV E0 t tk σ H Q := h
/-- Number(..), the new one is new -/
theorem c_newF {gV : List V → List V → List V} {vs zs : List V} {bb : Bool} (h : ShAt K H0 v n.S) (o : n.Ok) (h0 : n.st = 0) (hb : bb = true → n.e = n.S.lo) (k : ∀ x dx sh H', H x = none → Stp H H' → H' x = some (.ins C dx (flds sh n)) → SqT K H' sh [.int n.S.p, .int n.S.lo, .int n.S.hi] → Q (.ref x) H')
    (hg : ∀ x, gV (.ref x :: vs) zs = [.ref x, v, .int n.s, .int n.m, if bb then .non else .int n.e] := by intro _; rfl) (e : Ex H0 H := by infer_instance) : rMake C (spInit K C) gV vs zs H Q := by
  intro x dx hx hd hne
  rw [hg]
  have hs : Same H (upd (upd H dx (.own x)) x (.ins C dx [])) := fun b o e => by rw [upd_ne (ne_of_none e hx), upd_ne (ne_of_none e hd)]; exact e
  have e1 : Ex H0 (upd (upd H dx (.own x)) x (.ins C dx [])) := ⟨fun b o i z => hs _ _ (e.s b o i z)⟩
  refine ⟨⟨x, dx, v, n, bb⟩, rfl, upd_same, h.ex e1, o, h0, hb, fun sh H' ev kp ex => ⟨rfl, ?_⟩⟩
  have hs2 : Same H H' := fun b o z => kp b o (ne_of_none z hx) (hs b o z)
  obtain ⟨_, a, ea, ha⟩ := h.ex e
  rw [ea] at ev
  cases ev
  exact k x dx _ H' hx ⟨hs2⟩ ex (ha.ex ⟨fun b o _ z => hs2 b o z⟩)
theorem c_new {gV : List V → List V → List V} {vs zs : List V} {bb : Bool} (h : ShAt K H0 v n.S) (o : n.Ok) (h0 : n.st = 0) (hb : bb = true → n.e = n.S.lo) (k : ∀ w H', Stp H H' → NumAt K C H' w n → Q w H')
    (hg : ∀ x, gV (.ref x :: vs) zs = [.ref x, v, .int n.s, .int n.m, if bb then .non else .int n.e] := by intro _; rfl) (e : Ex H0 H := by infer_instance) : rMake C (spInit K C) gV vs zs H Q :=
  c_newF h o h0 hb (fun x dx sh H' _ st ex sx => k _ H' st ⟨o, x, dx, sh, rfl, ex, sx⟩) hg e
theorem SqT.but {a dx : Addr} {fs : List (Str × V)} {xs : List V} {sh : Addr} (h : SqT K H sh xs) (hx : H a = some (.ins C dx fs)) (k : ∀ b o, b ≠ a → H b = some o → H' b = some o) : SqT K H' sh xs := by
  rcases h with (e | ⟨o, e⟩) | e
  · exact .inl (.inl (k _ _ (by rintro rfl; rw [hx] at e; cases e) e))
  · exact .inl (.inr ⟨o, k _ _ (by rintro rfl; rw [hx] at e; cases e) e⟩)
  · exact .inr e
/-! ### shapes and pairs, equal or not -/
theorem eqv_ints3 (a b c a' b' c' : Int) : PyData.eqv (.tuple [.int a, .int b, .int c]) (.tuple [.int a', .int b', .int c']) = decide (a = a' ∧ b = b' ∧ c = c') := by
  simp only [PyData.eqv, PyData.eqvAll, Bool.and_true]
  by_cases h1 : a = a' <;> by_cases h2 : b = b' <;> by_cases h3 : c = c' <;> simp [h1, h2, h3]
theorem eqv_ints2 (a b a' b' : Int) : PyData.eqv (.tuple [.int a, .int b]) (.tuple [.int a', .int b']) = decide (a = a' ∧ b = b') := by
  simp only [PyData.eqv, PyData.eqvAll, Bool.and_true]
  by_cases h1 : a = a' <;> by_cases h2 : b = b' <;> simp [h1, h2]
theorem shaped_tup (xs : List Int) : SeqAt.shaped (.tuple (xs.map PyData.int)) = true := by
  induction xs with
  | nil => rfl
  | cons x xs ih => first | exact ih | simp_all [SeqAt.shaped]
theorem dec_sh (S S' : Sh) : decide (S.p = S'.p ∧ S.lo = S'.lo ∧ S.hi = S'.hi) = decide (S = S') := by
  obtain ⟨a, b, c⟩ := S
  obtain ⟨a', b', c'⟩ := S'
  simp [Sh.mk.injEq]
theorem TupAt.dp {xs : List V} {ds : List PyData} (h : TupAt K H v xs) (d : DpAll K H xs ds) : Dp K H v (.tuple ds) := by
  obtain ⟨a, rfl, hs⟩ := h
  exact .tup hs d
theorem c_eqSh (h : ShAt K H0 v S) (h' : ShAt K H1 w S') (k : Q (.bl (decide (S = S'))) H) (e : Ex H0 H := by infer_instance) (e' : Ex H1 H := by infer_instance) : rEqD K v w H Q := by
  refine ⟨_, _, (h.ex e).tup.dp (.cons (.int _) (.cons (.int _) (.cons (.int _) .nil))), (h'.ex e').tup.dp (.cons (.int _) (.cons (.int _) (.cons (.int _) .nil))), shaped_tup [_, _, _], shaped_tup [_, _, _], ?_⟩
  rw [eqv_ints3, dec_sh]
  exact k
theorem c_neSh (h : ShAt K H0 v S) (h' : ShAt K H1 w S') (k : Q (.bl (!decide (S = S'))) H) (e : Ex H0 H := by infer_instance) (e' : Ex H1 H := by infer_instance) : rNeD K v w H Q := by
  refine ⟨_, _, (h.ex e).tup.dp (.cons (.int _) (.cons (.int _) (.cons (.int _) .nil))), (h'.ex e').tup.dp (.cons (.int _) (.cons (.int _) (.cons (.int _) .nil))), shaped_tup [_, _, _], shaped_tup [_, _, _], ?_⟩
  rw [eqv_ints3, dec_sh]
  exact k
theorem c_ne2 {a b a' b' : Int} (h : TupAt K H0 v [.int a, .int b]) (h' : TupAt K H1 w [.int a', .int b']) (k : Q (.bl (!decide (a = a' ∧ b = b'))) H) (e : Ex H0 H := by infer_instance) (e' : Ex H1 H := by infer_instance) : rNeD K v w H Q := by
  refine ⟨_, _, (h.ex e).dp (.cons (.int _) (.cons (.int _) .nil)), (h'.ex e').dp (.cons (.int _) (.cons (.int _) .nil)), shaped_tup [_, _], shaped_tup [_, _], ?_⟩
  rw [eqv_ints2]
  exact k
theorem kindS_nan (h : n.Ok) : decide (kindS n = "nan") = decide (n.st = 2) := by
  have := h.st2
  unfold kindS
  by_cases h0 : n.st = 0
  · rw [if_pos h0, h0]
    split
    · decide
    · split <;> decide
  · rw [if_neg h0]
    exact stS_nan this
theorem kindS_inf (h : n.Ok) : decide (kindS n = "infinite") = decide (n.st = 1) := by
  have := h.st2
  unfold kindS
  by_cases h0 : n.st = 0
  · rw [if_pos h0, h0]
    split
    · decide
    · split <;> decide
  · rw [if_neg h0]
    exact stS_inf this
theorem mul_ok_val {a b : Nm} (ha : a.Ok) (hb : b.Ok) : IntMulOk a.num b.den := IntMulOk.of_le (intBits_le_iff.mpr (num_bits ha)) (intBits_le_iff.mpr (den_bits hb)) (by decide)
theorem i_mulB {i j : Int} (c : IntMulOk i j) (h : Q (.int (i * j)) H) : rI IntMulOk (fun i j => .int (i * j)) (.int i) (.int j) H Q := ⟨i, j, rfl, rfl, c, h⟩
def rFdB : R2 := fun x y H Q => ∃ i j, x = .int i ∧ y = .int j ∧ CDivB i j ∧ Q (.int (i / j)) H
theorem op_fdivM {X : Cx} : OpR X (binaryOp .FloorDiv) rFdB := op_fdivB
theorem cdB {i j : Int} (h0 : 0 < j) (h1 : j < 2 ^ 80) : CDivB i j := ⟨h0, Int.lt_of_lt_of_le h1 (ip_mono (by decide))⟩
theorem i_fdB {i j : Int} (h : Q (.int (i / j)) H) (c : CDivB i j := by exact cdB (by omega) (by omega)) : rFdB (.int i) (.int j) H Q := ⟨i, j, rfl, rfl, c, h⟩
end
end L2

set_option Elab.async false
set_option linter.all false
set_option maxRecDepth 100000
namespace Dw
open PySem L2
theorem word_back {n : Nm} (h : n.Ok) (h0 : n.st = 0) : wordK n.S (n.word % n.S.sgnW) (n.word / n.S.sgnW) = n := by
  obtain ⟨d1, d2, _, _⟩ := word_dm h (by omega)
  have e : n.wst = n.stp := by unfold Nm.wst; rw [h0]; rfl
  have a := h.stpL
  have b := h.sh.lastTop
  rw [d1, d2, e]
  unfold wordK
  rw [if_neg (by omega), if_neg (by omega)]
  have := h.back (by omega)
  unfold Nm.steps at this
  rw [h0] at this
  exact this
theorem word_in {n : Nm} (h : n.Ok) (h0 : n.st = 0) : 0 ≤ n.word ∧ n.word ≤ 2 * n.S.sgnW - 1 ∧ (n.S.topW ≤ n.word % n.S.sgnW ∨ n.word % n.S.sgnW < n.S.last) := by
  obtain ⟨d1, d2, d3, d4⟩ := word_dm h (by omega)
  have e : n.wst = n.stp := by unfold Nm.wst; rw [h0]; rfl
  exact ⟨d3, d4, .inr (by rw [d2, e]; exact h.stpL)⟩
theorem rank0 {S : Sh} (h : S.Ok) : rankN S 0 = S.zero 0 := by
  have l4 := h.last4
  have f2 := h.fn2
  obtain ⟨a, b, c, d, _, e⟩ := rankN_ok h (r := 0) (by omega) (by omega)
  have := rank_zero a d b
  rw [c, e] at this
  exact this
theorem up_stays {a : Nm} (h : a.Ok) (a2 : a.st ≠ 2) (hr : a.rank = a.S.last) : movedN a 1 = a := by
  have l4 := h.sh.last4
  have f2 := h.sh.fn2
  unfold movedN
  rw [if_neg a2, if_pos (by rw [hr]; unfold absI; split <;> omega)]
theorem sx_bits {n : Nm} (h : n.Ok) : n.sx.natAbs < 2 ^ 64 := by
  have := h.m0; have := h.m1; have := h.sh.fnB
  rcases sx_cases n h with ⟨_, e⟩ | ⟨_, e⟩ <;> rw [e] <;> omega
theorem bits2 {i : Int} {k : Nat} (h : i.natAbs < 2 ^ k) : Builtin.Int.intBits i ≤ k := intBits_le_iff.mpr h
theorem bits_pow2 (k : Nat) : Builtin.Int.intBits ((1 : Int) * 2 ^ k) ≤ k + 1 := by rw [Int.one_mul, bits_two]; exact Nat.le_refl _
theorem bits_diff {a b : Nm} (ha : a.Ok) (hb : b.Ok) : Builtin.Int.intBits (a.num * b.den - b.num * a.den) ≤ 2200 := by
  have h1 := intBits_mul_le (bits2 (num_bits ha)) (bits2 (den_bits hb))
  have h2 := intBits_mul_le (bits2 (num_bits hb)) (bits2 (den_bits ha))
  have := intBits_sub_le h1 h2
  omega
/-! ### the same value in a wider shape -/
def wideS (S : Sh) : Sh := ⟨minI 64 (S.p + 1), maxI (-1100) (S.lo - 1), minI 1000 (S.hi + 1)⟩
end Dw

set_option Elab.async false
set_option linter.all false
set_option maxRecDepth 100000
/-! texts of numbers, plain numbers -/
namespace L2
open PySem PySem.Spec PyProof.Rows Dw
def TupK (K : PySem.W.Frag) (a : Addr) (zs : List Str) : Prop := ∀ H, TupAt K H (.ref a) (zs.map V.str)
def markS (s : Int) : Str := if s = 1 then "-" else ""
def numS (m e : Int) : Str := Str.ofString (toString m) ++ "p" ++ Str.ofString (toString e)
def strN (n : Nm) : Str := if n.st = 1 then markS n.s ++ "inf" else markS n.s ++ numS n.m n.e
theorem emp_app (a : Str) : Str.empty ++ a = a := by
  cases a with
  | mk cps =>
    show Str.mk (#[] ++ cps) = _
    simp
def Signs (x : Str) : Prop := ∀ c ∈ x.cps.toList, c < 16 ^ 8
theorem Signs.of (s : String) : Signs (Str.ofString s) := by
  intro c hc
  rw [Str.ofString_eq_toList] at hc
  simp at hc
  obtain ⟨a, _, rfl⟩ := hc
  have := a.valid
  have h2 : a.toNat < 1114112 := by
    have h3 := a.valid
    simp [UInt32.isValidChar, Nat.isValidChar] at h3
    have : a.toNat = a.val.toNat := rfl
    omega
  exact Nat.lt_trans h2 (by decide)
theorem Signs.app {x y : Str} (hx : Signs x) (hy : Signs y) : Signs (x ++ y) := by
  intro c hc
  have e : (x ++ y).cps = x.cps ++ y.cps := rfl
  rw [e] at hc
  simp at hc
  rcases hc with h | h
  · exact hx c (by simpa using h)
  · exact hy c (by simpa using h)
theorem int_len {i : Int} (h : i.natAbs ≤ 1000) : (Str.ofString (toString i)).length ≤ 1002 := by
  have := len_str_of_int i
  omega
theorem log_small {i : Int} (h : i.natAbs ≤ 1000) : i.natAbs.log2 < 1920 := by
  by_cases z : i.natAbs = 0
  · rw [z]; decide
  · exact (Nat.log2_lt z).mpr (Nat.lt_of_le_of_lt h (Nat.lt_of_lt_of_le (show 1000 < 2 ^ 10 by decide) (Nat.pow_le_pow_right (by decide) (by decide))))
def isD (S : Sh) (s : Int) (k t : Str) : PyData := .list [.tuple [.int S.p, .int S.lo, .int S.hi], .int s, .str k, .str t]
theorem is_shows {S : Sh} {s : Int} {k t : Str} (h1 : S.p.natAbs ≤ 1000) (h2 : S.lo.natAbs ≤ 1000) (h3 : S.hi.natAbs ≤ 1000) (h4 : s.natAbs ≤ 1000) (k1 : Signs k) (k2 : k.length ≤ 100) (t1 : Signs t) (t2 : t.length ≤ 5000) :
    (isD S s k t).showable = true ∧ (isD S s k t).hasDict = false ∧ (isD S s k t).depth ≤ 20 ∧ (isD S s k t).shown.length ≤ sizeLine := by
  refine ⟨?_, ?_, ?_, ?_⟩
  · simp [isD, PyData.showable, PyData.showableAll, log_small h1, log_small h2, log_small h3, log_small h4]
  · simp [isD, PyData.hasDict, PyData.hasDictAll]
  · simp [isD, PyData.depth, PyData.depthAll]
  · have a1 := int_len h1
    have a2 := int_len h2
    have a3 := int_len h3
    have a4 := int_len h4
    have b1 : (Str.ofString S.p.repr).length ≤ 1002 := a1
    have b2 : (Str.ofString S.lo.repr).length ≤ 1002 := a2
    have b3 : (Str.ofString S.hi.repr).length ≤ 1002 := a3
    have b4 : (Str.ofString s.repr).length ≤ 1002 := a4
    have a5 := StrLaws.reprText_len k k1
    have a6 := StrLaws.reprText_len t t1
    have e2 : ((", " : String) : Str).length = 2 := rfl
    have e0 : (("" : String) : Str).length = 0 := rfl
    have e1 : (("[" : String) : Str).length = 1 := rfl
    have e3 : (("]" : String) : Str).length = 1 := rfl
    have e4 : (("(" : String) : Str).length = 1 := rfl
    have e5 : ((")" : String) : Str).length = 1 := rfl
    have sz : 1000000 ≤ sizeLine := by rw [sizeLine_eq]; decide
    simp only [isD, PyData.shown, PyData.shownAll, listText, textFrom, tupleText, Str.join, strLen_append, List.length_cons, List.length_nil]
    simp
    rw [e0, e1, e2, e3, e4, e5]
    omega
theorem kind_small (n : Nm) (h : n.st ≤ 2) : Signs (kindS n) ∧ (kindS n).length ≤ 100 := by
  have a : ∀ z : String, z ∈ ["zero", "subnormal", "normal", "finite", "infinite", "nan"] → (Str.ofString z).length ≤ 100 := by decide
  unfold kindS stS
  split
  · split
    · exact ⟨.of _, a _ (by decide)⟩
    · split
      · exact ⟨.of _, a _ (by decide)⟩
      · exact ⟨.of _, a _ (by decide)⟩
  · split
    · exact ⟨.of _, a _ (by decide)⟩
    · exact ⟨.of _, a _ (by decide)⟩
theorem strN_small {n : Nm} (h1 : n.m.natAbs ≤ 1000) (h2 : n.e.natAbs ≤ 1000) : Signs (strN n) ∧ (strN n).length ≤ 5000 := by
  have m1 : Signs (markS n.s) ∧ (markS n.s).length ≤ 1 := by
    unfold markS
    split
    · exact ⟨.of _, by decide⟩
    · exact ⟨.of _, by decide⟩
  have a1 := int_len h1
  have a2 := int_len h2
  have e : (("p" : String) : Str).length = 1 := rfl
  have e' : (("inf" : String) : Str).length = 3 := rfl
  unfold strN numS
  split
  · exact ⟨m1.1.app (.of _), by rw [strLen_append, e']; omega⟩
  · exact ⟨m1.1.app (((Signs.of _).app (.of _)).app (.of _)), by rw [strLen_append, strLen_append, strLen_append, e]; omega⟩
/-! ### plain numbers -/
def plE (n : Nm) : Int := if n.st = 1 then 0 else n.e
def PlAt (K : PySem.W.Frag) (H : Hp) (v : V) (n : Nm) : Prop := n.Ok ∧ n.st ≠ 2 ∧ ∃ fo, ShAt K H fo n.S ∧ TupAt K H v [.str (stS n.st), fo, .int n.s, .int n.m, .int (plE n)]
theorem PlAt.ex {K : PySem.W.Frag} {H H' : Hp} {v : V} {n : Nm} (h : PlAt K H v n) (e : Ex H H') : PlAt K H' v n := let ⟨o, o2, fo, h1, h2⟩ := h; ⟨o, o2, fo, h1.ex e, h2.ex e⟩
section
variable {K : PySem.W.Frag} {C : Addr} {H H0 H1 H' : Hp} {Q : VK} {E : XK} {σ : L2.St} {D : Ends} {v w x : V} {n n' : Nm} {S S' : Sh}
theorem i_pl0 (h : PlAt K H0 v n) (k : Q (.str (stS n.st)) H) (e : Ex H0 H := by infer_instance) : rIxT K v (.int 0) H Q := let ⟨_, _, fo, h1, h2⟩ := h; i_ixTup h2 k rfl e
theorem i_pl1 (h : PlAt K H0 v n) (k : ∀ w, ShAt K H w n.S → Q w H) (e : Ex H0 H := by infer_instance) : rIxT K v (.int 1) H Q := let ⟨_, _, fo, h1, h2⟩ := h; i_ixTup h2 (k fo (h1.ex e)) rfl e
theorem i_pl2 (h : PlAt K H0 v n) (k : Q (.int n.s) H) (e : Ex H0 H := by infer_instance) : rIxT K v (.int 2) H Q := let ⟨_, _, fo, h1, h2⟩ := h; i_ixTup h2 k rfl e
theorem i_pl3 (h : PlAt K H0 v n) (k : Q (.int n.m) H) (e : Ex H0 H := by infer_instance) : rIxT K v (.int 3) H Q := let ⟨_, _, fo, h1, h2⟩ := h; i_ixTup h2 k rfl e
theorem i_pl4 (h : PlAt K H0 v n) (k : Q (.int (plE n)) H) (e : Ex H0 H := by infer_instance) : rIxT K v (.int 4) H Q := let ⟨_, _, fo, h1, h2⟩ := h; i_ixTup h2 k rfl e
def rFmt (v : V) (H : Hp) (Q : VK) : Prop := (∃ i : Int, v = .int i ∧ i.natAbs.log2 < 1920 ∧ Q (.str (toString i)) H) ∨ (∃ z, v = .str z ∧ z.length ≤ sizeLine ∧ Q (.str z) H)
theorem i_fmt {te : TE} (h : te σ H fun v H1 => rFmt v H1 Q) : tFmt te σ H Q := h
theorem i_fmtI {i : Int} (h : i.natAbs.log2 < 1920) (q : Q (.str (toString i)) H) : rFmt (.int i) H Q := .inl ⟨i, rfl, h, q⟩
theorem i_fmtS {z : Str} (h : z.length ≤ sizeLine) (q : Q (.str z) H) : rFmt (.str z) H Q := .inr ⟨z, rfl, h, q⟩
def rJn (ts : List TE) (acc : Str) (σ : L2.St) (v : V) (H : Hp) (Q : VK) : Prop := ∃ y, v = .str y ∧ (acc ++ y).length ≤ sizeLine ∧ tJoin ts (acc ++ y) σ H Q
theorem i_jc {t : TE} {ts : List TE} {acc : Str} (h : t σ H fun v H1 => rJn ts acc σ v H1 Q) : tJoin (t :: ts) acc σ H Q := h
theorem i_jn {acc : Str} (h : Q (.str acc) H) : tJoin [] acc σ H Q := h
theorem i_js {z : Str} {ts : List TE} {acc : Str} (h : (acc ++ z).length ≤ sizeLine) (q : tJoin ts (acc ++ z) σ H Q) : rJn ts acc σ (.str z) H Q := ⟨z, rfl, h, q⟩
theorem i_mark {a : Addr} {s : Int} (t : TupK K a ["", "-"]) (hs : s = 0 ∨ s = 1) (k : Q (.str (markS s)) H) : rIxT K (.ref a) (.int s) H Q := by
  rcases hs with rfl | rfl
  · exact i_ixTup (t H) (show Q (.str ("" : String)) H from k) rfl
  · exact i_ixTup (t H) (show Q (.str ("-" : String)) H from k) rfl
end
theorem app_assoc (a b c : Str) : a ++ b ++ c = a ++ (b ++ c) := PySem.Str.append_assoc a b c
theorem len0 : Str.empty.length = 0 := rfl
theorem szM : 1000000 ≤ sizeLine := by rw [sizeLine_eq]; decide
theorem mark_len (s : Int) : (markS s).length ≤ 1 := by
  unfold markS
  split <;> decide
theorem strN_inf {n : Nm} (h : n.st = 1) : Str.empty ++ markS n.s ++ ("inf" : String) = strN n := by
  unfold strN
  rw [if_pos h, emp_app]
theorem strN_fin {n : Nm} (h : n.st = 0) : Str.empty ++ markS n.s ++ Str.ofString (toString n.m) ++ ("p" : String) ++ Str.ofString (toString n.e) = strN n := by
  unfold strN numS
  rw [if_neg (by omega), emp_app, app_assoc, app_assoc, app_assoc]
theorem strN_fin2 {n : Nm} (h : n.st = 0) : markS n.s ++ (Str.empty ++ Str.ofString (toString n.m) ++ ("p" : String) ++ Str.ofString (toString n.e)) = strN n := by
  unfold strN numS
  rw [if_neg (by omega), emp_app]
theorem zero_steps {S : Sh} (h : S.Ok) (s : Int) : S.ofSteps 0 s = S.zero s := by
  have l4 := h.last4
  have f2 := h.fn2
  have r := h.fk0.2
  unfold Sh.ofSteps Sh.zero
  rw [if_neg (by omega), r]
  simp
theorem steps_lo {S : Sh} (h : S.Ok) {k : Int} (k0 : 0 ≤ k) (k1 : k < S.fn) (s : Int) : S.ofSteps k s = ⟨S, s, k, S.lo, 0⟩ := by
  have l4 := h.last4
  have f2 := h.fn2
  have r : S.rise k = 0 := by
    unfold Sh.rise
    rw [Int.ediv_eq_zero_of_lt k0 k1]
    rfl
  unfold Sh.ofSteps
  rw [if_neg (by omega), r]
  simp
theorem steps_hi {S : Sh} (h : S.Ok) {k : Int} (k1 : S.fn ≤ k) (kl : k ≠ S.last) (s : Int) : S.ofSteps k s = ⟨S, s, S.fn + k % S.fn, S.lo + k / S.fn - 1, 0⟩ := by
  have f2 := h.fn2
  have q1 : 1 ≤ k / S.fn := (Int.le_ediv_iff_mul_le (by omega)).mpr (by omega)
  have r : S.rise k = k / S.fn - 1 := by
    unfold Sh.rise
    split <;> omega
  unfold Sh.ofSteps
  rw [if_neg kl, r]
  have e := Int.mul_ediv_add_emod k S.fn
  have e2 : (k / S.fn - 1) * S.fn = S.fn * (k / S.fn) - S.fn := by rw [Int.sub_mul, Int.one_mul, Int.mul_comm]
  rw [e2]
  congr 1
  · omega
  · omega
theorem pl_of {K : PySem.W.Frag} {H : Hp} {w fo : V} {n : Nm} {z : Str} {s m e : Int} (o : n.Ok) (h2 : n.st ≠ 2) (hs : ShAt K H fo n.S) (t : TupAt K H w [.str z, fo, .int s, .int m, .int e]) (e1 : z = stS n.st) (e2 : s = n.s) (e3 : m = n.m) (e4 : e = plE n) : PlAt K H w n := by
  subst e1 e2 e3 e4
  exact ⟨o, h2, fo, hs, t⟩
theorem kind_inf {n : Nm} (h : n.st = 1) : kindS n = "infinite" := by
  unfold kindS stS
  rw [if_neg (by omega), if_neg (by omega), if_pos h]
theorem kind_fin {n : Nm} (o : n.Ok) (h : n.st = 0) : kindS n = if n.m ≥ n.S.fn then "normal" else if n.m = 0 then "zero" else "subnormal" := by
  have f2 := o.sh.fn2
  unfold kindS
  rw [if_pos h]
  by_cases a : n.m = 0
  · rw [if_pos a, if_neg (by omega), if_pos a]
  · rw [if_neg a, if_neg a]
    by_cases b : n.m < n.S.fn
    · rw [if_pos b, if_neg (by omega)]
    · rw [if_neg b, if_pos (by omega)]
end L2

set_option Elab.async false
set_option linter.all false
set_option maxRecDepth 100000
namespace Dw
open PySem L2
def plainN (S : Sh) (r s : Int) : Nm := if r = 0 then S.zero s else rankN S r
theorem plain_ok {S : Sh} (h : S.Ok) {r s : Int} (h1 : -S.last ≤ r) (h2 : r ≤ S.last) (hs : s = 0 ∨ s = 1) : (plainN S r s).Ok ∧ (plainN S r s).rank = r ∧ (plainN S r s).S = S ∧ (plainN S r s).st ≠ 2 ∧ ((plainN S r s).st = 1 ↔ absI r = S.last) ∧ (plainN S r s).s = (if r = 0 then s else if r < 0 then 1 else 0) := by
  have l4 := h.last4
  have f2 := h.fn2
  unfold plainN
  by_cases z : r = 0
  · rw [if_pos z, if_pos z]
    refine ⟨h.zeroOk hs, ?_, rfl, (show (0 : Nat) ≠ 2 by decide), ⟨fun q => absurd q (show (0 : Nat) ≠ 1 by decide), fun q => ?_⟩, rfl⟩
    · have e : (S.zero s).stp = 0 := by unfold Nm.stp Sh.zero; simp
      unfold Nm.rank Nm.steps
      rw [show (S.zero s).st = 0 from rfl, if_neg (show ¬ (0 : Nat) = 1 by decide), e, z]
      split <;> rfl
    · rw [z] at q
      unfold absI at q
      rw [if_neg (by decide)] at q
      omega
  · rw [if_neg z, if_neg z]
    obtain ⟨a, b, c, d, e, f⟩ := rankN_ok h h1 h2
    exact ⟨a, b, c, d, e, f⟩
theorem plain_up {S : Sh} (h : S.Ok) {r : Int} (h1 : -S.last ≤ r) (h2 : r < S.last) : movedN (plainN S r 1) 1 = plainN S (r + 1) 1 := by
  obtain ⟨a, b, c, d, e, f⟩ := plain_ok h h1 (Int.le_of_lt h2) (s := 1) (.inr rfl)
  obtain ⟨_, _, _, _, _, m1, m2⟩ := moved_ok a d (d := 1) (by rw [b, c]; omega) (by rw [b, c]; omega)
  rw [b, c] at m1 m2
  by_cases z : r + 1 = 0
  · rw [m2 z, f, if_neg (by omega), if_pos (by omega)]
    unfold plainN
    rw [if_pos z]
  · rw [m1 z]
    unfold plainN
    rw [if_neg z]
theorem plain_dn {S : Sh} (h : S.Ok) {r : Int} (h1 : -S.last < r) (h2 : r ≤ S.last) : movedN (plainN S r 0) (-1) = plainN S (r - 1) 0 := by
  obtain ⟨a, b, c, d, e, f⟩ := plain_ok h (Int.le_of_lt h1) h2 (s := 0) (.inl rfl)
  obtain ⟨_, _, _, _, _, m1, m2⟩ := moved_ok a d (d := -1) (by rw [b, c]; omega) (by rw [b, c]; omega)
  rw [b, c] at m1 m2
  by_cases z : r - 1 = 0
  · rw [m2 (by omega), f, if_neg (by omega), if_neg (by omega)]
    unfold plainN
    rw [if_pos z]
  · rw [m1 (by omega)]
    unfold plainN
    rw [if_neg z]
    rfl
theorem dn_stays {a : Nm} (h : a.Ok) (a2 : a.st ≠ 2) (hr : a.rank = -a.S.last) : movedN a (-1) = a := by
  have l4 := h.sh.last4
  have f2 := h.sh.fn2
  unfold movedN
  rw [if_neg a2, if_pos (by rw [hr]; unfold absI; split <;> omega)]
/-- the numbers of a shape, from the one infinite up, and down -/
def fUp (S : Sh) (i : Nat) : Nm := plainN S (i - S.last) 1
def fDn (S : Sh) (i : Nat) : Nm := plainN S (S.last - i) 0
def gUp (S : Sh) (i : Nat) : Nm := fUp S (min i (2 * S.last).toNat)
def gDn (S : Sh) (i : Nat) : Nm := fDn S (min i (2 * S.last).toNat)
theorem up_next {S : Sh} (h : S.Ok) (i : Nat) : movedN (gUp S i) 1 = gUp S (i + 1) := by
  have l4 := h.last4
  have f2 := h.fn2
  unfold gUp fUp
  by_cases z : (i : Int) < 2 * S.last
  · rw [show min i (2 * S.last).toNat = i from by omega, show min (i + 1) (2 * S.last).toNat = i + 1 from by omega, plain_up h (by omega) (by omega)]
    congr 1
    omega
  · rw [show min i (2 * S.last).toNat = (2 * S.last).toNat from by omega, show min (i + 1) (2 * S.last).toNat = (2 * S.last).toNat from by omega]
    obtain ⟨a, b, c, d, e, f⟩ := plain_ok h (r := ((2 * S.last).toNat : Int) - S.last) (s := 1) (by omega) (by omega) (.inr rfl)
    exact up_stays a d (by rw [b, c]; omega)
theorem dn_next {S : Sh} (h : S.Ok) (i : Nat) : movedN (gDn S i) (-1) = gDn S (i + 1) := by
  have l4 := h.last4
  have f2 := h.fn2
  unfold gDn fDn
  by_cases z : (i : Int) < 2 * S.last
  · rw [show min i (2 * S.last).toNat = i from by omega, show min (i + 1) (2 * S.last).toNat = i + 1 from by omega, plain_dn h (by omega) (by omega)]
    congr 1
    omega
  · rw [show min i (2 * S.last).toNat = (2 * S.last).toNat from by omega, show min (i + 1) (2 * S.last).toNat = (2 * S.last).toNat from by omega]
    obtain ⟨a, b, c, d, e, f⟩ := plain_ok h (r := S.last - ((2 * S.last).toNat : Int)) (s := 0) (by omega) (by omega) (.inl rfl)
    exact dn_stays a d (by rw [b, c]; omega)
theorem up_in {S : Sh} (h : S.Ok) {i : Nat} (hi : (i : Int) ≤ 2 * S.last) : gUp S i = fUp S i := by
  unfold gUp
  rw [show min i (2 * S.last).toNat = i from by omega]
theorem dn_in {S : Sh} (h : S.Ok) {i : Nat} (hi : (i : Int) ≤ 2 * S.last) : gDn S i = fDn S i := by
  unfold gDn
  rw [show min i (2 * S.last).toNat = i from by omega]
theorem up_first {S : Sh} (h : S.Ok) : gUp S 0 = S.inf 1 := by
  have l4 := h.last4
  have f2 := h.fn2
  unfold gUp fUp plainN rankN
  rw [show min 0 (2 * S.last).toNat = 0 from by omega, if_neg (by omega), if_pos (by omega)]
  rw [show absI (((0 : Nat) : Int) - S.last) = S.last from by unfold absI; split <;> omega]
  unfold Sh.ofSteps
  rw [if_pos rfl]
theorem up_end {S : Sh} (h : S.Ok) : gUp S ((2 * S.last).toNat + 1) = gDn S 0 := by
  have l4 := h.last4
  have f2 := h.fn2
  unfold gUp gDn fUp fDn plainN
  rw [show min ((2 * S.last).toNat + 1) (2 * S.last).toNat = (2 * S.last).toNat from by omega, show min 0 (2 * S.last).toNat = 0 from by omega, if_neg (by omega), if_neg (by omega)]
  congr 1
  omega
theorem word_back1 {n : Nm} (h : n.Ok) (h2 : n.st ≠ 2) : wordK n.S (n.word % n.S.sgnW) (n.word / n.S.sgnW) = n := by
  have st := h.st2
  rcases (show n.st = 0 ∨ n.st = 1 by omega) with z | z
  · exact word_back h z
  · obtain ⟨d1, d2, _, _⟩ := word_dm h h2
    have e : n.wst = n.S.topW := by unfold Nm.wst; rw [if_pos z]
    rw [d1, d2, e]
    unfold wordK
    rw [if_neg (by omega), if_pos rfl]
    have := h.back h2
    unfold Nm.steps at this
    rw [if_pos z] at this
    unfold Sh.ofSteps at this
    rw [if_pos rfl] at this
    exact this
theorem word_in1 {n : Nm} (h : n.Ok) (h2 : n.st ≠ 2) : 0 ≤ n.word ∧ n.word ≤ 2 * n.S.sgnW - 1 ∧ (n.S.topW ≤ n.word % n.S.sgnW ∨ n.word % n.S.sgnW < n.S.last) := by
  have st := h.st2
  rcases (show n.st = 0 ∨ n.st = 1 by omega) with z | z
  · exact word_in h z
  · obtain ⟨d1, d2, d3, d4⟩ := word_dm h h2
    have e : n.wst = n.S.topW := by unfold Nm.wst; rw [if_pos z]
    exact ⟨d3, d4, .inl (by rw [d2, e]; omega)⟩
theorem word_inj {a b : Nm} (ha : a.Ok) (hb : b.Ok) (a2 : a.st ≠ 2) (b2 : b.st ≠ 2) (hS : a.S = b.S) (e : a.word = b.word) : a = b := by
  rw [← word_back1 ha a2, ← word_back1 hb b2, hS, e]
theorem nan_word {S : Sh} (h : S.Ok) : S.nan.word = S.topW + 2 ^ (S.p - 2).toNat ∧ S.topW < S.nan.word ∧ S.nan.word < S.sgnW := by
  have e : S.nan.word = S.topW + 2 ^ (S.p - 2).toNat := by unfold Nm.word; rw [if_pos (show S.nan.st = 2 from rfl)]; rfl
  have p := ip_pos (S.p - 2).toNat
  have hf := h.half
  have t := h.topSgn
  rw [e]
  omega
theorem word_nan {n : Nm} (h : n.Ok) (h2 : n.st ≠ 2) : n.word ≠ n.S.nan.word := by
  obtain ⟨e, e1, e2⟩ := nan_word h.sh
  obtain ⟨d1, d2, d3, d4⟩ := word_dm h h2
  obtain ⟨w0, w1, w2⟩ := wst_lt h h2
  intro z
  have : n.word / n.S.sgnW = 0 := Int.ediv_eq_zero_of_lt d3 (by omega)
  have : n.word % n.S.sgnW = n.word := Int.emod_eq_of_lt d3 (by omega)
  omega
theorem inf_of {n : Nm} (h : n.Ok) (z : n.st = 1) : n = n.S.inf n.s := by
  have := h.back (by omega)
  unfold Nm.steps at this
  rw [if_pos z] at this
  unfold Sh.ofSteps at this
  rw [if_pos rfl] at this
  exact this.symm
/-! values -/
theorem val_parts {n : Nm} (h : n.Ok) : n.num * (1 * 2 ^ (maxI 0 (0 - n.e)).toNat) = n.sx * (1 * 2 ^ (maxI 0 n.e).toNat) * n.den := by
  have v := val_sc h
  have e0 := h.e0
  have l0 := h.sh.l0
  have w0 : (0 : Int) < 2 ^ 1100 := ip_pos _
  have e : (2 : Int) ^ (maxI 0 n.e).toNat * 2 ^ 1100 = wt n.e * 2 ^ (maxI 0 (0 - n.e)).toNat := by
    unfold wt
    rw [← Int.pow_add, ← Int.pow_add]
    congr 1
    unfold maxI
    split <;> split <;> omega
  unfold Nm.sc at v
  rw [Int.one_mul, Int.one_mul]
  generalize (2 : Int) ^ 1100 = W at *
  generalize (2 : Int) ^ (maxI 0 (0 - n.e)).toNat = G1 at *
  generalize (2 : Int) ^ (maxI 0 n.e).toNat = G2 at *
  generalize n.num = a at *
  generalize n.den = d at *
  generalize n.sx = x at *
  generalize wt n.e = u at *
  refine Int.eq_of_mul_eq_mul_right (a := W) (by omega) ?_
  calc a * G1 * W = a * W * G1 := by rw [Int.mul_right_comm]
    _ = x * u * d * G1 := by rw [v]
    _ = x * (u * G1) * d := by rw [Int.mul_right_comm, Int.mul_assoc x u G1]
    _ = x * (G2 * W) * d := by rw [e]
    _ = x * G2 * d * W := by rw [← Int.mul_assoc, Int.mul_right_comm]
theorem num_odd {n : Nm} (h : n.Ok) (d : 1 < n.den) : n.num % 2 ≠ 0 := by
  unfold Nm.den at d
  unfold Nm.num
  by_cases e0 : 0 ≤ n.e
  · rw [if_pos e0] at d; omega
  · rw [if_neg e0] at d ⊢
    by_cases x0 : n.sx = 0
    · rw [if_pos x0] at d; omega
    · rw [if_neg x0] at d ⊢
      have k : n.sp < (-n.e).toNat := by
        rcases Nat.lt_or_ge n.sp (-n.e).toNat with q | q
        · exact q
        · rw [Nat.sub_eq_zero_of_le q] at d
          simp at d
      have k2 : n.sp = tz n.sx := by unfold Nm.sp at k ⊢; omega
      obtain ⟨j, e⟩ := tz_spec x0
      rw [k2]
      have p := ip_pos (tz n.sx)
      have : n.sx / 2 ^ tz n.sx = 2 * j + 1 := by
        conv => lhs; lhs; rw [e]
        exact Int.mul_ediv_cancel_left _ (by omega)
      rw [this]
      omega
end Dw

set_option Elab.async false
set_option linter.all false
set_option maxRecDepth 100000
namespace L2
open PySem PySem.Spec PyProof.Rows Dw
theorem ex_putD {H : Hp} {D : Addr} {xs ys : List V} (h : H D = some (.lst xs)) : Ex H (upd H D (.lst ys)) := ⟨fun b o i e => by
  have : b ≠ D := by rintro rfl; rw [h] at e; cases e; exact i
  rw [upd_ne this]; exact e⟩
theorem same_put {H0 H : Hp} {D : Addr} {o : HO} (hD : H0 D = none) (s : Same H0 H) : Same H0 (upd H D o) := fun b u e => by rw [upd_ne (ne_of_none e hD)]; exact s b u e
theorem at_app {ys : List V} {y z : V} {j : Nat} (h : (ys ++ [y])[j]? = some z) : ys[j]? = some z ∨ (j = ys.length ∧ z = y) := by
  rcases Nat.lt_or_ge j ys.length with q | q
  · rw [List.getElem?_append_left q] at h
    exact .inl h
  · rw [List.getElem?_append_right q] at h
    rcases (show j - ys.length = 0 ∨ 0 < j - ys.length by omega) with z | z
    · rw [z] at h
      exact .inr ⟨by omega, by simpa using h.symm⟩
    · have : ([y] : List V)[j - ys.length]? = none := List.getElem?_eq_none (by simp only [List.length_cons, List.length_nil]; omega)
      rw [this] at h
      cases h
section
variable {K : PySem.W.Frag} {a D : Addr} {xs : List V} {lo : Int} {n : Nat} {g : TG} {tt : TT} {te : TE} {vs : List Nat} {σ : L2.St} {H0 : Hp} {Qd : Hp → Prop} {P : Nat → V → Hp → Prop}
/-- [e for x in xs], each of it by itself -/
theorem lcL (hD : H0 D = none) (ha : H0 a = some (.lst xs)) (hn : xs.length ≤ 900) (hP : ∀ i y H H', P i y H → Ex H H' → P i y H')
    (hs : ∀ i x H (T : V → Hp → Prop) (U : Hp → Prop), xs[i]? = some x → Stp H0 H → (∀ y H4, Stp H H4 → P i y H4 → T y H4) → g x (wipe σ vs) H fun σ2 H2 => wipe σ2 vs = wipe σ vs ∧ tt σ2 H2 fun b H3 => if b = true then te σ2 H3 T else U H3)
    (hd : ∀ H ys, Stp H0 H → H D = some (.lst ys) → ys.length = xs.length → (∀ i y, ys[i]? = some y → P i y H) → Qd H) :
    ∃ W : Nat → Nat → Hp → Prop, (∃ m, W 0 m (upd H0 D (.lst []))) ∧ ∀ i m H, W i m H →
      ((Itl K a).stop i H ∧ Qd H) ∨ ((Itl K a).go i H ∧ ∃ Nx : Hp → Prop, (∀ H', Nx H' → ∃ m', m' < m ∧ W (i + 1) m' H') ∧ ∀ x H', (Itl K a).yld i H x H' → g x (wipe σ vs) H' fun σ2 H2 => wipe σ2 vs = wipe σ vs ∧ tt σ2 H2 fun b H3 =>
        if b = true then te σ2 H3 fun y H4 => ∃ acc, H4 D = some (.lst acc) ∧ acc.length < sizeLine ∧ Nx (upd H4 D (.lst (acc ++ [y]))) else Nx H3) := by
  refine lc_list (K := K) (a := a) (xs := xs) (fun i H => ∃ ys, Stp H0 H ∧ H D = some (.lst ys) ∧ ys.length = i ∧ ∀ j y, ys[j]? = some y → P j y H) ⟨[], ⟨same_put hD (Same.refl _)⟩, upd_same, rfl, fun j y z => by cases z⟩ ?_ ?_ ?_
  · rintro i H _ ⟨ys, s, _⟩
    exact SqL.of (s.s _ _ ha)
  · rintro i x H hx ⟨ys, s, hy, hl, all⟩
    have hi := (List.getElem?_eq_some_iff.mp hx).1
    refine hs i x H _ _ hx s fun y H4 s4 p4 => ?_
    have h4 := s4.s _ _ hy
    have e4 : Ex H H4 := ⟨fun b o _ e => s4.s b o e⟩
    have e5 : Ex H4 (upd H4 D (.lst (ys ++ [y]))) := ex_putD h4
    refine ⟨ys, h4, small1000 (by omega), ys ++ [y], ⟨same_put hD fun b o e => s4.s b o (s.s b o e)⟩, upd_same, by rw [List.length_append, hl]; rfl, fun j z hz => ?_⟩
    rcases at_app hz with q | ⟨q, q'⟩
    · exact hP _ _ _ _ (hP _ _ _ _ (all j z q) e4) e5
    · rw [q, q', hl]
      exact hP _ _ _ _ p4 e5
  · rintro H ⟨ys, s, hy, hl, all⟩
    exact hd H ys s hy hl all
/-- [e for k in range(..)] -/
theorem lcR (hD : H0 D = none) (hn : n ≤ 900) (hP : ∀ i y H H', P i y H → Ex H H' → P i y H')
    (hs : ∀ (i : Nat) H (T : V → Hp → Prop) (U : Hp → Prop), i < n → Stp H0 H → (∀ y H4, Stp H H4 → P i y H4 → T y H4) → g (.int (lo + i)) (wipe σ vs) H fun σ2 H2 => wipe σ2 vs = wipe σ vs ∧ tt σ2 H2 fun b H3 => if b = true then te σ2 H3 T else U H3)
    (hd : ∀ H ys, Stp H0 H → H D = some (.lst ys) → ys.length = n → (∀ i y, ys[i]? = some y → P i y H) → Qd H) :
    ∃ W : Nat → Nat → Hp → Prop, (∃ m, W 0 m (upd H0 D (.lst []))) ∧ ∀ i m H, W i m H →
      ((Itr lo n).stop i H ∧ Qd H) ∨ ((Itr lo n).go i H ∧ ∃ Nx : Hp → Prop, (∀ H', Nx H' → ∃ m', m' < m ∧ W (i + 1) m' H') ∧ ∀ x H', (Itr lo n).yld i H x H' → g x (wipe σ vs) H' fun σ2 H2 => wipe σ2 vs = wipe σ vs ∧ tt σ2 H2 fun b H3 =>
        if b = true then te σ2 H3 fun y H4 => ∃ acc, H4 D = some (.lst acc) ∧ acc.length < sizeLine ∧ Nx (upd H4 D (.lst (acc ++ [y]))) else Nx H3) := by
  refine lc_range (lo := lo) (n := n) (fun i H => ∃ ys, Stp H0 H ∧ H D = some (.lst ys) ∧ ys.length = i ∧ ∀ j y, ys[j]? = some y → P j y H) ⟨[], ⟨same_put hD (Same.refl _)⟩, upd_same, rfl, fun j y z => by cases z⟩ ?_ ?_
  · rintro i H hi ⟨ys, s, hy, hl, all⟩
    refine hs i H _ _ hi s fun y H4 s4 p4 => ?_
    have h4 := s4.s _ _ hy
    have e4 : Ex H H4 := ⟨fun b o _ e => s4.s b o e⟩
    have e5 : Ex H4 (upd H4 D (.lst (ys ++ [y]))) := ex_putD h4
    refine ⟨ys, h4, small1000 (by omega), ys ++ [y], ⟨same_put hD fun b o e => s4.s b o (s.s b o e)⟩, upd_same, by rw [List.length_append, hl]; rfl, fun j z hz => ?_⟩
    rcases at_app hz with q | ⟨q, q'⟩
    · exact hP _ _ _ _ (hP _ _ _ _ (all j z q) e4) e5
    · rw [q, q', hl]
      exact hP _ _ _ _ p4 e5
  · rintro H ⟨ys, s, hy, hl, all⟩
    exact hd H ys s hy hl all
/-- [x for x in xs if ..] of which none is taken -/
theorem lcE (hD : H0 D = none) (ha : H0 a = some (.lst xs))
    (hs : ∀ (i : Nat) (x : V) (H : Hp) (T : V → Hp → Prop) (U : Hp → Prop), xs[i]? = some x → Stp H0 H → (∀ H4, Stp H H4 → U H4) → g x (wipe σ vs) H fun σ2 H2 => wipe σ2 vs = wipe σ vs ∧ tt σ2 H2 fun b H3 => if b = true then te σ2 H3 T else U H3)
    (hd : ∀ H, Stp H0 H → H D = some (.lst []) → Qd H) :
    ∃ W : Nat → Nat → Hp → Prop, (∃ m, W 0 m (upd H0 D (.lst []))) ∧ ∀ i m H, W i m H →
      ((Itl K a).stop i H ∧ Qd H) ∨ ((Itl K a).go i H ∧ ∃ Nx : Hp → Prop, (∀ H', Nx H' → ∃ m', m' < m ∧ W (i + 1) m' H') ∧ ∀ x H', (Itl K a).yld i H x H' → g x (wipe σ vs) H' fun σ2 H2 => wipe σ2 vs = wipe σ vs ∧ tt σ2 H2 fun b H3 =>
        if b = true then te σ2 H3 fun y H4 => ∃ acc, H4 D = some (.lst acc) ∧ acc.length < sizeLine ∧ Nx (upd H4 D (.lst (acc ++ [y]))) else Nx H3) := by
  refine lc_list (K := K) (a := a) (xs := xs) (fun i H => Stp H0 H ∧ H D = some (.lst [])) ⟨⟨same_put hD (Same.refl _)⟩, upd_same⟩ ?_ ?_ ?_
  · rintro i H _ ⟨s, _⟩
    exact SqL.of (s.s _ _ ha)
  · rintro i x H hx ⟨s, hy⟩
    exact hs i x H _ _ hx s fun H4 s4 => ⟨⟨fun b o e => s4.s b o (s.s b o e)⟩, s4.s _ _ hy⟩
  · rintro H ⟨s, hy⟩
    exact hd H s hy
end
end L2
namespace Dw
open PySem L2
/-! ### kinds -/
def kc (fn last r : Int) : Nat := if absI r = last then 0 else if r = 0 then 1 else if absI r < fn then 2 else 3
def ksOf : Nat → Str
  | 0 => "infinite"
  | 1 => "zero"
  | 2 => "subnormal"
  | _ => "normal"
theorem kc_le (fn last r : Int) : kc fn last r ≤ 3 := by unfold kc; split <;> (try split) <;> (try split) <;> omega
theorem ks_eq : ∀ a, a ≤ 3 → ∀ b, b ≤ 3 → eqV (.str (ksOf a)) (.str (ksOf b)) = decide (a = b) := by
  intro a ha b hb
  have ha' : a = 0 ∨ a = 1 ∨ a = 2 ∨ a = 3 := by omega
  have hb' : b = 0 ∨ b = 1 ∨ b = 2 ∨ b = 3 := by omega
  rcases ha' with rfl | rfl | rfl | rfl <;> rcases hb' with rfl | rfl | rfl | rfl <;> decide
theorem kind_up {S : Sh} (h : S.Ok) {i : Nat} (hi : (i : Int) ≤ 2 * S.last) : kindS (fUp S i) = ksOf (kc S.fn S.last (i - S.last)) := by
  have l4 := h.last4
  have f2 := h.fn2
  unfold fUp
  generalize hr : (i : Int) - S.last = r
  obtain ⟨o, rk, sS, s2, s1, _⟩ := plain_ok h (r := r) (s := 1) (by omega) (by omega) (.inr rfl)
  generalize plainN S r 1 = n at *
  unfold kc
  by_cases z : n.st = 1
  · rw [if_pos (s1.mp z), kind_inf z]
    rfl
  · rw [if_neg (fun q => z (s1.mpr q))]
    have z0 : n.st = 0 := by have := o.st2; omega
    have ab := (rank_abs o s2).1
    rw [rk, show n.steps = n.stp from by unfold Nm.steps; rw [if_neg z]] at ab
    have m0 := o.m0; have e0 := o.e0; have nr := o.nrm
    have q0 : 0 ≤ (n.e - n.S.lo) * n.S.fn := Int.mul_nonneg (by omega) (by rw [sS]; omega)
    have st : n.stp = n.m + (n.e - n.S.lo) * n.S.fn := rfl
    have lo0 : n.m < n.S.fn → n.stp = n.m := fun q => by
      have : n.e = n.S.lo := by
        rcases (show n.e = n.S.lo ∨ n.S.lo < n.e by omega) with y | y
        · exact y
        · have := nr y; omega
      rw [st, this]
      simp
    unfold kindS
    rw [if_pos z0]
    rw [sS] at *
    have ra : absI r = 0 ↔ r = 0 := by unfold absI; split <;> omega
    by_cases m1 : n.m = 0
    · have := lo0 (by omega)
      rw [if_pos m1, if_pos (ra.mp (by omega))]
      rfl
    · have : n.stp ≠ 0 := by omega
      rw [if_neg m1, if_neg (show ¬ r = 0 from fun q => this (by rw [← ab]; exact ra.mpr q))]
      by_cases m2 : n.m < S.fn
      · have := lo0 m2
        rw [if_pos m2, if_pos (by omega)]
        rfl
      · rw [if_neg m2, if_neg (by omega)]
        rfl
def cnt (fn last : Nat) (c : Nat) : Nat := (List.range (2 * last + 1)).countP fun (i : Nat) => decide (kc fn last ((i : Int) - last) = c)
theorem cnt_all : ∀ f, f < 3 → ∀ d, d < 4 → cnt (2 ^ (f + 1)) ((d + 2) * 2 ^ (f + 1)) 2 = 2 * 2 ^ (f + 1) - 2 ∧ cnt (2 ^ (f + 1)) ((d + 2) * 2 ^ (f + 1)) 1 = 1 ∧ cnt (2 ^ (f + 1)) ((d + 2) * 2 ^ (f + 1)) 0 = 2 := by decide +kernel
/-! ### words, all unlike -/
def wdF (S : Sh) (i : Nat) : Int := if i < (2 * S.last).toNat + 1 then (fUp S i).word else if i = (2 * S.last).toNat + 1 then (S.zero 0).word else S.nan.word
theorem wd_inj {S : Sh} (h : S.Ok) {i j : Nat} (hij : i < j) (hj : j < (2 * S.last).toNat + 3) : wdF S i ≠ wdF S j := by
  have l4 := h.last4
  have f2 := h.fn2
  have up : ∀ k : Nat, k < (2 * S.last).toNat + 1 → (fUp S k).Ok ∧ (fUp S k).rank = k - S.last ∧ (fUp S k).S = S ∧ (fUp S k).st ≠ 2 ∧ ((k : Int) = S.last → (fUp S k).s = 1) := fun k hk => by
    obtain ⟨o, rk, sS, s2, s1, ss⟩ := plain_ok h (r := (k : Int) - S.last) (s := 1) (by omega) (by omega) (.inr rfl)
    exact ⟨o, rk, sS, s2, fun z => by unfold fUp; rw [ss, if_pos (by omega)]⟩
  have zo := h.zeroOk (s := 0) (.inl rfl)
  have zr : (S.zero 0).rank = 0 := by
    have := (plain_ok h (r := 0) (s := 0) (by omega) (by omega) (.inl rfl)).2.1
    unfold plainN at this
    rwa [if_pos rfl] at this
  unfold wdF
  intro e
  by_cases hi : i < (2 * S.last).toNat + 1
  · rw [if_pos hi] at e
    obtain ⟨o, rk, sS, s2, ss⟩ := up i hi
    by_cases hj1 : j < (2 * S.last).toNat + 1
    · rw [if_pos hj1] at e
      obtain ⟨o', rk', sS', s2', _⟩ := up j hj1
      have := word_inj o o' s2 s2' (by rw [sS, sS']) e
      rw [this] at rk
      omega
    · rw [if_neg hj1] at e
      by_cases hj2 : j = (2 * S.last).toNat + 1
      · rw [if_pos hj2] at e
        have := word_inj o zo s2 (show (0 : Nat) ≠ 2 by decide) (by rw [sS]; rfl) e
        have s0 : (fUp S i).s = 0 := by rw [this]; rfl
        rw [this, zr] at rk
        have := ss (by omega)
        omega
      · rw [if_neg hj2] at e
        have := word_nan o s2
        rw [sS] at this
        exact this e
  · rw [if_neg hi] at e
    rw [if_pos (show i = (2 * S.last).toNat + 1 by omega), if_neg (by omega), if_neg (by omega)] at e
    exact word_nan zo (show (0 : Nat) ≠ 2 by decide) e
end Dw

set_option Elab.async false
set_option linter.all false
set_option maxRecDepth 100000
set_option maxHeartbeats 4000000
namespace K17
open PySem L2 Dw
def top (i : Nat) : Stmt := PySem.Challenge.pw_digitway_k17_whole_small_shapes.main.body.getD i (.Pass ⟨0, 0, 0, 0⟩)
local macro_rules | `(tactic| walk_at "nm") => `(tactic| repeat' (first
  | with_reducible refine i_seq ?_ | with_reducible refine i_asg ?_ | with_reducible refine i_ret ?_ | with_reducible refine i_drop ?_ | with_reducible refine i_ifS ?_ | with_reducible refine i_next ?_
  | with_reducible refine i_cons ?_ | with_reducible refine i_nil ?_ | with_reducible refine i_op ?_ | with_reducible refine i_un ?_ | with_reducible refine i_c ?_
  | with_reducible refine i_var ?_
  | with_reducible refine i_rI0 ?_ | with_reducible refine i_rU ?_
  | with_reducible refine i_rIa ?_
  | with_reducible refine i_test ?_ | with_reducible refine i_b ?_ | with_reducible refine i_bl ?_ | with_reducible refine i_if ?_ | with_reducible refine i_and ?_ | with_reducible refine i_or ?_ | with_reducible refine i_not ?_
  | with_reducible refine i_andV ?_ | with_reducible refine i_orV ?_ | with_reducible refine i_notV ?_ | with_reducible refine i_cb ?_ | with_reducible refine i_tup ?_ | with_reducible refine i_lst ?_ | with_reducible refine i_dget ?_
  | with_reducible refine i_gname ?_ | with_reducible refine i_chain ?_ | with_reducible refine i_eqI ?_ | with_reducible refine i_neI ?_ | with_reducible refine i_sl ?_ | with_reducible refine i_nopart ?_ | with_reducible refine i_part ?_ | with_reducible refine i_int ?_ | with_reducible refine i_par ?_ | with_reducible refine i_two ?_ | with_reducible refine i_strs ?_ | with_reducible refine i_isB ?_ | with_reducible refine i_isntB ?_ | with_reducible refine i_for ?_ | with_reducible refine i_itup ?_ | with_reducible refine i_ilist ?_ | with_reducible refine i_rng1 ?_
  | with_reducible refine i_fld ?_ | with_reducible refine f_sign (by assumption) (by assumption) ?_ | with_reducible refine f_m (by assumption) (by assumption) ?_ | with_reducible refine f_e (by assumption) (by assumption) ?_ | with_reducible refine f_state (by assumption) (by assumption) ?_
  | (with_reducible refine f_shape (by assumption) (by assumption) ?_; intro _ _)
  | with_reducible refine i_meth0 ?_ | with_reducible refine m_num (by assumption) ?_ | with_reducible refine i_call ?_ | with_reducible refine i_callP ?_ | with_reducible refine i_eqS ?_
  | with_reducible refine i_ixSh0 (by assumption) ?_ | with_reducible refine i_ixSh1 (by assumption) ?_ | with_reducible refine i_ixSh2 (by assumption) ?_ | with_reducible refine g_sh3 (by assumption) ?_ | with_reducible refine g_two (by assumption) ?_
  | with_reducible refine i_ixTup (by assumption) ?_
  | with_reducible refine i_fdB ?_ | with_reducible refine i_bm0 ?_ | with_reducible refine i_bits ?_ | with_reducible refine i_max ?_ | with_reducible refine i_min ?_ | with_reducible refine i_abs ?_ | with_reducible refine i_mul ?_ | with_reducible refine i_shl ?_
  | with_reducible refine c_shape (by assumption) ?_ | with_reducible refine c_shint (by assumption) ?_ | with_reducible refine c_nmint (by assumption) ?_ | with_reducible refine c_kind (by assumption) ?_ | with_reducible refine c_wantNum (by assumption) ?_ | with_reducible refine c_order ?_ | with_reducible refine c_whole ?_
  | (with_reducible refine c_shapeM (by assumption) ?_; intro _ _) | (with_reducible refine c_parts (by assumption) ?_; intro _ _ _ _) | (with_reducible refine c_value (by assumption) ?_; intro _ _ _ _) | (with_reducible refine c_rank (by assumption) ?_; intro _ _) | (with_reducible refine c_steps (by assumption) ?_; intro _ _)
  | (with_reducible refine c_word (by assumption) ?_; intro _ _) | (with_reducible refine c_nmnm (by assumption) ?_; intro _ _ _ _) | (with_reducible refine c_compare (by assumption) (by assumption) ?_; intro _ _) | (with_reducible refine c_moved (by assumption) ?_; intro _ _ _ _)
  | with_reducible refine c_eq (by assumption) (by assumption) ?_ | with_reducible refine c_ne (by assumption) (by assumption) ?_
  | with_reducible refine i_isNN ?_ | with_reducible refine i_isNI ?_ | with_reducible refine i_sfld ?_ | with_reducible refine i_make ?_ | with_reducible refine c_eqSh (by assumption) (by assumption) ?_ | with_reducible refine c_neSh (by assumption) (by assumption) ?_ | with_reducible refine c_ne2 (by assumption) (by assumption) ?_))
def gV_Number_init_2 : List V → List V → List V
  | [a0, a1], [] => [a0, a1, .int 0, .int 0, .non]
  | _, _ => []
def gV_Number_init_2_sign : List V → List V → List V
  | [a0, a1], [k0] => [a0, a1, k0, .int 0, .non]
  | _, _ => []
def gV_Number_init_2_sign_significand_exponent : List V → List V → List V
  | [a0, a1], [k0, k1, k2] => [a0, a1, k0, k1, k2]
  | _, _ => []
def gV_infinite_1_sign : List V → List V → List V
  | [a0], [k0] => [a0, k0]
  | _, _ => []
def gV_nan_1 : List V → List V → List V
  | [a0], [] => [a0]
  | _, _ => []
def gV_by_rank_2 : List V → List V → List V
  | [a0, a1], [] => [a0, a1]
  | _, _ => []
def gV_by_word_2 : List V → List V → List V
  | [a0, a1], [] => [a0, a1]
  | _, _ => []
def gV_Number_init_2_exponent_significand_sign : List V → List V → List V
  | [a0, a1], [k0, k1, k2] => [a0, a1, k2, k1, k0]
  | _, _ => []
def spIsWhole : Sp := spF (fun x : Int × Int × Int => [.int x.1, .int x.2.1, .int x.2.2]) fun x H Q => Q (.bl (decide (x.2.1 ≤ x.1) && decide (x.1 ≤ x.2.2))) H
def spIsShape (K : PySem.W.Frag) : Sp := spF (fun x : V × Sh => [x.1]) fun x H Q => ShAt K H x.1 x.2 ∧ Q (.bl true) H
abbrev st_is_whole : Stmt := top 6
theorem sc_is_whole : FnScope ["thing", "least", "most"] ["thing", "least", "most"] (defScope st_is_whole) := ⟨rfl, rfl, rfl, by decide +kernel, rfl, by decide +kernel, by decide +kernel⟩
structure GInt (mg : Str → Option Value) (x : Str) (i : Int) : Prop where
  ex : ∃ t, mg x = some (.int i t)
theorem we_gint {X : Cx} {x : Str} {i : Int} {pos : Pos} (G : GInt X.mg x i) (hg : Gl X x) (hd : (x == ("__debug__" : Str)) = false := by decide) : Wr (PE X (.Name x pos) (tC (.int i))) := by
  obtain ⟨t, e⟩ := G.ex
  exact we_glob hg e ⟨_, rfl⟩ hd
abbrev st_is_shape : Stmt := top 7
theorem sc_is_shape : FnScope ["thing"] ["thing"] (defScope st_is_shape) := ⟨rfl, rfl, rfl, by decide +kernel, rfl, by decide +kernel, by decide +kernel⟩
abbrev st_want_whole : Stmt := top 8
theorem sc_want_whole : FnScope ["thing", "least", "most", "what"] ["thing", "least", "most", "what"] (defScope st_want_whole) := ⟨rfl, rfl, rfl, by decide +kernel, rfl, by decide +kernel, by decide +kernel⟩
abbrev st_want_shape : Stmt := top 9
theorem sc_want_shape : FnScope ["thing"] ["thing"] (defScope st_want_shape) := ⟨rfl, rfl, rfl, by decide +kernel, rfl, by decide +kernel, by decide +kernel⟩
abbrev st_first_normal : Stmt := top 23
theorem sc_first_normal : FnScope ["shape"] ["shape"] (defScope st_first_normal) := ⟨rfl, rfl, rfl, by decide +kernel, rfl, by decide +kernel, by decide +kernel⟩
abbrev st_last_rank : Stmt := top 24
theorem sc_last_rank : FnScope ["shape", "precision", "low", "high"] ["shape"] (defScope st_last_rank) := ⟨rfl, rfl, rfl, by decide +kernel, rfl, by decide +kernel, by decide +kernel⟩
abbrev st_field_bits : Stmt := top 25
theorem sc_field_bits : FnScope ["shape", "precision", "low", "high"] ["shape"] (defScope st_field_bits) := ⟨rfl, rfl, rfl, by decide +kernel, rfl, by decide +kernel, by decide +kernel⟩
abbrev st_top_word : Stmt := top 26
theorem sc_top_word : FnScope ["shape"] ["shape"] (defScope st_top_word) := ⟨rfl, rfl, rfl, by decide +kernel, rfl, by decide +kernel, by decide +kernel⟩
abbrev st_sign_word : Stmt := top 27
theorem sc_sign_word : FnScope ["shape"] ["shape"] (defScope st_sign_word) := ⟨rfl, rfl, rfl, by decide +kernel, rfl, by decide +kernel, by decide +kernel⟩
abbrev st_order : Stmt := top 33
theorem sc_order : FnScope ["left", "right"] ["left", "right"] (defScope st_order) := ⟨rfl, rfl, rfl, by decide +kernel, rfl, by decide +kernel, by decide +kernel⟩
abbrev st_by_twos : Stmt := top 31
theorem sc_by_twos : FnScope ["numerator", "exponent", "twos", "spare"] ["numerator", "exponent"] (defScope st_by_twos) := ⟨rfl, rfl, rfl, by decide +kernel, rfl, by decide +kernel, by decide +kernel⟩
def spByTwos (K : PySem.W.Frag) : Sp := spF (fun x : Int × Int => [.int x.1, .int x.2]) fun x H Q => (-18446744073709551616 < x.1 ∧ x.1 < 18446744073709551616 ∧ -2000 ≤ x.2 ∧ x.2 ≤ 2000) ∧ ∀ w H', Stp H H' → TupAt K H' w [.int (if 0 ≤ x.2 then x.1 * 2 ^ x.2.toNat else hvN x.1 (-x.2).toNat), .int (if 0 ≤ x.2 then 1 else hvD x.1 (-x.2).toNat)] → Q w H'
section
variable {P : Program} {w : World} {K : PySem.W.Frag} {mg : Str → Option Value} {base : Heap} {C : Addr}
theorem ki_int (K : PySem.W.Frag) : PySem.W.kitOne K (.type "int") (.type "int") = some true := by kernel_rfl
theorem ki_bool (K : PySem.W.Frag) : PySem.W.kitOne K (.type "int") (.type "bool") = some false := by kernel_rfl
theorem ok_is_whole {f : Addr} {fd : FuncData} (F : Fun K "is_whole" "is_whole" st_is_whole f fd) (nb_isinstance : mg "isinstance" = none) (nb_bool : mg "bool" = none) (nb_int : mg "int" = none) :
    FnOk P w K mg base CX0 1 f fd ["thing", "least", "most"] (spIsWhole) := by
  refine F.okW sc_is_whole (spF.len fun _ => rfl) (fun cdv A outer s H vs Q E hr h => ?_)
  refine (?_ : ∃ t, Wr (PSs _ _ t) ∧ t _ _ _)
  obtain ⟨⟨i, lo, hi⟩, rfl, q⟩ := h
  simp only at *
  refine ⟨_, (wss_one (ws_ret (we_and (we_callB call_isi (by rfl) nb_isinstance (by decide +kernel) (wa_cons (wv 0) (wa_cons (we_bltn (v := .ty "int") (by rfl) nb_int (by decide +kernel) rfl) wa_nil))) (we_and (we_not (we_callB call_isi (by rfl) nb_isinstance (by decide +kernel) (wa_cons (wv 0) (wa_cons (we_bltn (v := .ty "bool") (by rfl) nb_bool (by decide +kernel) rfl) wa_nil)))) (we_one (we_chain op_le op_le (wv 1) (wv 0) (wv 2))))))), ?_⟩
  (try simp only [cx_K, cx_K2])
  walk_at "nm"
  refine ⟨_, _, _, _, rfl, .int _, ki_int K, ?_⟩
  walk_at "nm"
  refine ifT' rfl ?_
  walk_at "nm"
  refine ⟨_, _, _, _, rfl, .int _, ki_bool K, ?_⟩
  walk_at "nm"
  refine ifT' rfl ?_
  walk_at "nm"
  refine i_ite (fun z => ?_) (fun z => ?_)
  · walk_at "nm"
    simp only [z, Bool.true_and] at q
    exact q
  · simp only [z, Bool.false_and] at q
    exact q
theorem c_isWhole {H : Hp} {Q : VK} {E : XK} {i lo hi : Int} (q : Q (.bl (decide (lo ≤ i) && decide (i ≤ hi))) H) : spIsWhole [.int i, .int lo, .int hi] H Q E := ⟨⟨i, lo, hi⟩, rfl, q⟩
theorem ok_is_shape {f : Addr} {fd : FuncData} (F : Fun K "is_shape" "is_shape" st_is_shape f fd) (C_is_whole : Cal P w K mg base 1 "is_whole" ["thing", "least", "most"] (spIsWhole)) (I_LOW_LEAST : GInt mg "LOW_LEAST" (-1100)) (nb_len : mg "len" = none) (nb_isinstance : mg "isinstance" = none) (nb_tuple : mg "tuple" = none) :
    FnOk P w K mg base CX0 2 f fd ["thing"] (spIsShape K) := by
  refine F.okW sc_is_shape (spF.len fun _ => rfl) (fun cdv A outer s H vs Q E hr h => ?_)
  refine (?_ : ∃ t, Wr (PSs _ _ t) ∧ t _ _ _)
  obtain ⟨⟨v, S⟩, rfl, hs, q⟩ := h
  have ok := hs.1
  obtain ⟨_, a, rfl, ha⟩ := id hs
  have := ok.p2; have := ok.p64; have := ok.l0; have := ok.l1; have := ok.h0; have := ok.h1
  simp only at *
  refine ⟨_, (wss_one (ws_ret (we_and (we_callB call_isiT (by rfl) nb_isinstance (by decide +kernel) (wa_cons (wv 0) (wa_cons (we_bltn (v := .ty "tuple") (by rfl) nb_tuple (by decide +kernel) rfl) wa_nil))) (we_and (we_cmpR op_eq (we_callB call_len_seq (by rfl) nb_len (by decide +kernel) (wa_cons (wv 0) wa_nil)) we_int (nomark _)) (we_and (we_cal C_is_whole (hr.mono (by decide)) (by rfl) (wa_cons (we_ix ix_tup (wv 0) we_int (fun _ _ => rfl)) (wa_cons we_int (wa_cons we_int wa_nil)))) (we_and (we_cal C_is_whole (hr.mono (by decide)) (by rfl) (wa_cons (we_ix ix_tup (wv 0) we_int (fun _ _ => rfl)) (wa_cons (we_gint I_LOW_LEAST (by rfl)) (wa_cons we_int wa_nil)))) (we_one (we_cal C_is_whole (hr.mono (by decide)) (by rfl) (wa_cons (we_ix ix_tup (wv 0) we_int (fun _ _ => rfl)) (wa_cons (we_ix ix_tup (wv 0) we_int (fun _ _ => rfl)) (wa_cons we_int wa_nil))))))))))), ?_⟩
  (try simp only [cx_K, cx_K2])
  walk_at "nm"
  refine ⟨_, _, rfl, ha, ?_⟩
  walk_at "nm"
  refine ifT' rfl ?_
  walk_at "nm"
  refine ⟨_, _, rfl, .inr ha, ?_⟩
  walk_at "nm"
  refine ifT' rfl ?_
  walk_at "nm"
  refine c_isWhole ?_
  walk_at "nm"
  refine ifT' (by simp; omega) ?_
  walk_at "nm"
  refine c_isWhole ?_
  walk_at "nm"
  refine ifT' (by simp; omega) ?_
  walk_at "nm"
  refine c_isWhole ?_
  rw [decide_eq_true (by omega), decide_eq_true (by omega)]
  exact q
theorem ok_want_whole {f : Addr} {fd : FuncData} (F : Fun K "want_whole" "want_whole" st_want_whole f fd) (C_is_whole : Cal P w K mg base 1 "is_whole" ["thing", "least", "most"] (spIsWhole)) :
    FnOk P w K mg base CX0 2 f fd ["thing", "least", "most", "what"] (spWantWhole) := by
  refine F.okW sc_want_whole (spF.len fun _ => rfl) (fun cdv A outer s H vs Q E hr h => ?_)
  refine (?_ : ∃ t, Wr (PSs _ _ t) ∧ t _ _ _)
  obtain ⟨⟨i, lo, hi, z⟩, rfl, h1, h2, q⟩ := h
  simp only at *
  refine ⟨_, (wss_one (ws_if (wt_not (wt_val (we_cal C_is_whole (hr.mono (by decide)) (by rfl) (wa_cons (wv 0) (wa_cons (wv 1) (wa_cons (wv 2) wa_nil)))))) (wss_one ws_never) wss_nil)), ?_⟩
  (try simp only [cx_K, cx_K2])
  walk_at "nm"
  refine c_isWhole ?_
  walk_at "nm"
  refine ifF' (by simp; omega) ?_
  exact q
theorem ok_want_shape {f : Addr} {fd : FuncData} (F : Fun K "want_shape" "want_shape" st_want_shape f fd) (C_is_shape : Cal P w K mg base 2 "is_shape" ["thing"] (spIsShape K)) :
    FnOk P w K mg base CX0 3 f fd ["thing"] (spWantShape K) := by
  refine F.okW sc_want_shape (spF.len fun _ => rfl) (fun cdv A outer s H vs Q E hr h => ?_)
  refine (?_ : ∃ t, Wr (PSs _ _ t) ∧ t _ _ _)
  obtain ⟨⟨v, S⟩, rfl, hs, q⟩ := h
  simp only at *
  refine ⟨_, (wss_one (ws_if (wt_not (wt_val (we_cal C_is_shape (hr.mono (by decide)) (by rfl) (wa_cons (wv 0) wa_nil)))) (wss_one ws_never) wss_nil)), ?_⟩
  (try simp only [cx_K, cx_K2])
  walk_at "nm"
  refine ⟨⟨_, S⟩, rfl, hs, ?_⟩
  walk_at "nm"
  refine ifF' rfl ?_
  exact q
theorem ok_first_normal {f : Addr} {fd : FuncData} (F : Fun K "first_normal" "first_normal" st_first_normal f fd)  :
    FnOk P w K mg base CX0 1 f fd ["shape"] (spShInt K Dw.Sh.fn) := by
  refine F.okW sc_first_normal (spF.len fun _ => rfl) (fun cdv A outer s H vs Q E hr h => ?_)
  refine (?_ : ∃ t, Wr (PSs _ _ t) ∧ t _ _ _)
  obtain ⟨⟨v, S⟩, rfl, hs, q⟩ := h
  have := hs.1.p2; have := hs.1.p64
  simp only at *
  refine ⟨_, (wss_one (ws_ret (we_op op_shl we_int (we_op op_sub (we_ix ix_tup (wv 0) we_int (fun _ _ => rfl)) we_int)))), ?_⟩
  (try simp only [cx_K, cx_K2])
  walk_at "nm"
  have e : (1 : Int) * 2 ^ (S.p - 1).toNat = S.fn := by
    unfold Sh.fn
    rw [Int.one_mul]
    congr 1
    omega
  rw [e]
  exact q
theorem ok_last_rank {f : Addr} {fd : FuncData} (F : Fun K "last_rank" "last_rank" st_last_rank f fd) (C_first_normal : Cal P w K mg base 1 "first_normal" ["shape"] (spShInt K Dw.Sh.fn)) :
    FnOk P w K mg base CX0 2 f fd ["shape"] (spShInt K Dw.Sh.last) := by
  refine F.okW sc_last_rank (spF.len fun _ => rfl) (fun cdv A outer s H vs Q E hr h => ?_)
  refine (?_ : ∃ t, Wr (PSs _ _ t) ∧ t _ _ _)
  obtain ⟨⟨v, S⟩, rfl, hs, q⟩ := h
  have := hs.1.l0; have := hs.1.l1; have := hs.1.h0; have := hs.1.h1
  simp only at *
  refine ⟨_, (wss_cons (ws_asg (wv 0) (wg_tup (n := 3) (by rfl) (wgs_cons (wg_name (i := 1) sc_last_rank.nd rfl (Or.inl rfl)) (wgs_cons (wg_name (i := 2) sc_last_rank.nd rfl (Or.inl rfl)) (wgs_cons (wg_name (i := 3) sc_last_rank.nd rfl (Or.inl rfl)) wgs_nil)))))
        (wss_one (ws_ret (we_op op_mul (we_op op_add (we_op op_sub (wv 3) (wv 2)) we_int) (we_cal C_first_normal (hr.mono (by decide)) (by rfl) (wa_cons (wv 0) wa_nil)))))), ?_⟩
  (try simp only [cx_K, cx_K2])
  walk_at "nm"
  exact q
theorem ok_field_bits {f : Addr} {fd : FuncData} (F : Fun K "field_bits" "field_bits" st_field_bits f fd)  :
    FnOk P w K mg base CX0 1 f fd ["shape"] (spShInt K fun S => S.fb) := by
  refine F.okW sc_field_bits (spF.len fun _ => rfl) (fun cdv A outer s H vs Q E hr h => ?_)
  refine (?_ : ∃ t, Wr (PSs _ _ t) ∧ t _ _ _)
  obtain ⟨⟨v, S⟩, rfl, hs, q⟩ := h
  simp only at *
  refine ⟨_, (wss_cons (ws_asg (wv 0) (wg_tup (n := 3) (by rfl) (wgs_cons (wg_name (i := 1) sc_field_bits.nd rfl (Or.inl rfl)) (wgs_cons (wg_name (i := 2) sc_field_bits.nd rfl (Or.inl rfl)) (wgs_cons (wg_name (i := 3) sc_field_bits.nd rfl (Or.inl rfl)) wgs_nil)))))
        (wss_one (ws_ret (we_bm0 PySem.F.plainAttrs_int PySem.F.slot_int_bit_length PySem.F.type_int_bit_length mt_bitsM (we_op op_add (we_op op_sub (wv 3) (wv 2)) we_int))))), ?_⟩
  (try simp only [cx_K, cx_K2])
  walk_at "nm"
  exact q
theorem ok_top_word {f : Addr} {fd : FuncData} (F : Fun K "top_word" "top_word" st_top_word f fd) (C_field_bits : Cal P w K mg base 1 "field_bits" ["shape"] (spShInt K fun S => S.fb)) (C_first_normal : Cal P w K mg base 1 "first_normal" ["shape"] (spShInt K Dw.Sh.fn)) :
    FnOk P w K mg base CX0 2 f fd ["shape"] (spShInt K Dw.Sh.topW) := by
  refine F.okW sc_top_word (spF.len fun _ => rfl) (fun cdv A outer s H vs Q E hr h => ?_)
  refine (?_ : ∃ t, Wr (PSs _ _ t) ∧ t _ _ _)
  obtain ⟨⟨v, S⟩, rfl, hs, q⟩ := h
  have := hs.1.fb12
  have h4 := hs.1.fbB
  have h5 := ip_pos S.fb
  simp only at *
  refine ⟨_, (wss_one (ws_ret (we_op op_mul (we_op op_sub (we_op op_shl we_int (we_cal C_field_bits (hr.mono (by decide)) (by rfl) (wa_cons (wv 0) wa_nil))) we_int) (we_cal C_first_normal (hr.mono (by decide)) (by rfl) (wa_cons (wv 0) wa_nil))))), ?_⟩
  (try simp only [cx_K, cx_K2])
  walk_at "nm"
  rw [Int.one_mul, Int.toNat_natCast]
  refine i_mul ?_
  exact q
theorem ok_sign_word {f : Addr} {fd : FuncData} (F : Fun K "sign_word" "sign_word" st_sign_word f fd) (C_first_normal : Cal P w K mg base 1 "first_normal" ["shape"] (spShInt K Dw.Sh.fn)) (C_field_bits : Cal P w K mg base 1 "field_bits" ["shape"] (spShInt K fun S => S.fb)) :
    FnOk P w K mg base CX0 2 f fd ["shape"] (spShInt K Dw.Sh.sgnW) := by
  refine F.okW sc_sign_word (spF.len fun _ => rfl) (fun cdv A outer s H vs Q E hr h => ?_)
  refine (?_ : ∃ t, Wr (PSs _ _ t) ∧ t _ _ _)
  obtain ⟨⟨v, S⟩, rfl, hs, q⟩ := h
  have := hs.1.fb12
  have h4 := hs.1.fnB
  have h5 := hs.1.fn2
  simp only at *
  refine ⟨_, (wss_one (ws_ret (we_op op_shl (we_cal C_first_normal (hr.mono (by decide)) (by rfl) (wa_cons (wv 0) wa_nil)) (we_cal C_field_bits (hr.mono (by decide)) (by rfl) (wa_cons (wv 0) wa_nil))))), ?_⟩
  (try simp only [cx_K, cx_K2])
  walk_at "nm"
  rw [Int.toNat_natCast]
  exact q
theorem ok_order {f : Addr} {fd : FuncData} (F : Fun K "order" "order" st_order f fd)  :
    FnOk P w K mg base CX0 1 f fd ["left", "right"] (spOrder) := by
  refine F.okW sc_order (spF.len fun _ => rfl) (fun cdv A outer s H vs Q E hr h => ?_)
  refine (?_ : ∃ t, Wr (PSs _ _ t) ∧ t _ _ _)
  obtain ⟨⟨i, j⟩, rfl, q⟩ := h
  simp only at *
  refine ⟨_, (wss_cons (ws_if (wt_cmpR op_eq (wv 0) (wv 1) (nomark _)) (wss_one (ws_ret we_int)) wss_nil)
        (wss_one (ws_ret (we_ifExp (wt_cmpR op_lt (wv 0) (wv 1) (nomark _)) (we_un un_neg we_int) we_int)))), ?_⟩
  (try simp only [cx_K, cx_K2])
  walk_at "nm"
  refine i_ite (fun z => ?_) (fun z => ?_)
  · walk_at "nm"
    have e : sgn i j = 0 := by unfold sgn; rw [if_pos (of_decide_eq_true z)]
    rw [e] at q
    exact q
  · walk_at "nm"
    have z' := of_decide_eq_false z
    refine i_ite (fun y => ?_) (fun y => ?_)
    · walk_at "nm"
      have e : sgn i j = -1 := by unfold sgn; rw [if_neg z', if_pos (of_decide_eq_true y)]
      rw [e] at q
      exact q
    · walk_at "nm"
      have e : sgn i j = 1 := by unfold sgn; rw [if_neg z', if_neg (of_decide_eq_false y)]
      rw [e] at q
      exact q
theorem ok_by_twos {f : Addr} {fd : FuncData} (F : Fun K "by_twos" "by_twos" st_by_twos f fd) (nb_min : mg "min" = none) :
    FnOk P w K mg base CX0 1 f fd ["numerator", "exponent"] (spByTwos K) := by
  refine F.okW sc_by_twos (spF.len fun _ => rfl) (fun cdv A outer s H vs Q E hr h => ?_)
  refine (?_ : ∃ t, Wr (PSs _ _ t) ∧ t _ _ _)
  obtain ⟨⟨x, ke⟩, rfl, hk, q⟩ := h
  obtain ⟨hx0, hx1, he0, he1⟩ := hk
  simp only at *
  refine ⟨_, (wss_cons (ws_if (wt_cmpR op_ge (wv 1) we_int (nomark _)) (wss_one (ws_ret (we_tupA (wa_cons (we_op op_shl (wv 0) (wv 1)) (wa_cons we_int wa_nil))))) wss_nil)
        (wss_cons (ws_if (wt_cmpR op_eq (wv 0) we_int (nomark _)) (wss_one (ws_ret (we_tupA (wa_cons we_int (wa_cons we_int wa_nil))))) wss_nil)
        (wss_cons (ws_set (i := 2) sc_by_twos.nd rfl (Or.inl rfl) (we_op op_sub (we_bm0 PySem.F.plainAttrs_int PySem.F.slot_int_bit_length PySem.F.type_int_bit_length mt_bitsM (we_op op_and (wv 0) (we_un un_neg (wv 0)))) we_int))
        (wss_cons (ws_set (i := 3) sc_by_twos.nd rfl (Or.inl rfl) (we_callB (call_minM rfl) (by rfl) nb_min (by decide +kernel) (wa_cons (wv 2) (wa_cons (we_un un_neg (wv 1)) wa_nil))))
        (wss_one (ws_ret (we_tupA (wa_cons (we_op op_shr (wv 0) (wv 3)) (wa_cons (we_op op_shl we_int (we_op op_sub (we_un un_neg (wv 1)) (wv 3))) wa_nil))))))))), ?_⟩
  (try simp only [cx_K, cx_K2])
  walk_at "nm"
  refine i_ite (fun y => ?_) (fun y => ?_)
  · rw [if_pos (of_decide_eq_true y), if_pos (of_decide_eq_true y)] at q
    have y' := of_decide_eq_true y
    walk_at "nm"
    refine i_born2 (K := K) (fun p H' s e => ?_) rfl
    exact q _ _ s e
  have y' := of_decide_eq_false y
  rw [if_neg y', if_neg y'] at q
  have hk : -ke = (((-ke).toNat : Nat) : Int) := by omega
  generalize (-ke).toNat = k at *
  walk_at "nm"
  refine i_ite (fun z => ?_) (fun z => ?_)
  · walk_at "nm"
    refine i_born2 (K := K) (fun p H' s e => q _ _ s ?_) rfl
    have z' := of_decide_eq_true z
    unfold hvN hvD
    rw [if_pos z', if_pos z']
    exact e
  · walk_at "nm"
    have z' := of_decide_eq_false z
    rw [tz_bits z', hk]
    have em : minI (tz x : Nat) (k : Nat) = ((min (tz x) k : Nat) : Int) := by unfold minI; split <;> omega
    rw [em]
    refine i_rI (Int.natCast_nonneg _) ?_
    walk_at "nm"
    refine i_born2 (K := K) (fun p H' s e => q _ _ s ?_) rfl
    unfold hvN hvD
    rw [if_neg z', if_neg z']
    have e2 : (1 : Int) * 2 ^ (-ke - ((min (tz x) k : Nat) : Int)).toNat = 2 ^ (k - min (tz x) k) := by
      rw [Int.one_mul]
      congr 1
      omega
    rw [e2] at e
    rw [Int.toNat_natCast] at e
    exact e
end
end K17

set_option Elab.async false
set_option linter.all false
set_option maxRecDepth 100000
set_option maxHeartbeats 4000000
namespace K17
open PySem L2 Dw
local macro_rules | `(tactic| walk_at "nm") => `(tactic| repeat' (first
  | with_reducible refine i_seq ?_ | with_reducible refine i_asg ?_ | with_reducible refine i_ret ?_ | with_reducible refine i_drop ?_ | with_reducible refine i_ifS ?_ | with_reducible refine i_next ?_
  | with_reducible refine i_cons ?_ | with_reducible refine i_nil ?_ | with_reducible refine i_op ?_ | with_reducible refine i_un ?_ | with_reducible refine i_c ?_
  | with_reducible refine i_var ?_
  | with_reducible refine i_rI0 ?_ | with_reducible refine i_rU ?_
  | with_reducible refine i_rIa ?_
  | with_reducible refine i_test ?_ | with_reducible refine i_b ?_ | with_reducible refine i_bl ?_ | with_reducible refine i_if ?_ | with_reducible refine i_and ?_ | with_reducible refine i_or ?_ | with_reducible refine i_not ?_
  | with_reducible refine i_andV ?_ | with_reducible refine i_orV ?_ | with_reducible refine i_notV ?_ | with_reducible refine i_cb ?_ | with_reducible refine i_tup ?_ | with_reducible refine i_lst ?_ | with_reducible refine i_dget ?_
  | with_reducible refine i_gname ?_ | with_reducible refine i_chain ?_ | with_reducible refine i_eqI ?_ | with_reducible refine i_neI ?_ | with_reducible refine i_sl ?_ | with_reducible refine i_nopart ?_ | with_reducible refine i_part ?_ | with_reducible refine i_int ?_ | with_reducible refine i_par ?_ | with_reducible refine i_two ?_ | with_reducible refine i_strs ?_ | with_reducible refine i_isB ?_ | with_reducible refine i_isntB ?_ | with_reducible refine i_for ?_ | with_reducible refine i_itup ?_ | with_reducible refine i_ilist ?_ | with_reducible refine i_rng1 ?_
  | with_reducible refine i_fld ?_ | with_reducible refine f_sign (by assumption) (by assumption) ?_ | with_reducible refine f_m (by assumption) (by assumption) ?_ | with_reducible refine f_e (by assumption) (by assumption) ?_ | with_reducible refine f_state (by assumption) (by assumption) ?_
  | (with_reducible refine f_shape (by assumption) (by assumption) ?_; intro _ _)
  | with_reducible refine i_meth0 ?_ | with_reducible refine m_num (by assumption) ?_ | with_reducible refine i_call ?_ | with_reducible refine i_callP ?_ | with_reducible refine i_eqS ?_
  | with_reducible refine i_ixSh0 (by assumption) ?_ | with_reducible refine i_ixSh1 (by assumption) ?_ | with_reducible refine i_ixSh2 (by assumption) ?_ | with_reducible refine g_sh3 (by assumption) ?_ | with_reducible refine g_two (by assumption) ?_
  | with_reducible refine i_ixTup (by assumption) ?_
  | with_reducible refine i_fdB ?_ | with_reducible refine i_bm0 ?_ | with_reducible refine i_bits ?_ | with_reducible refine i_max ?_ | with_reducible refine i_min ?_ | with_reducible refine i_abs ?_ | with_reducible refine i_mul ?_ | with_reducible refine i_shl ?_
  | with_reducible refine c_shape (by assumption) ?_ | with_reducible refine c_shint (by assumption) ?_ | with_reducible refine c_nmint (by assumption) ?_ | with_reducible refine c_kind (by assumption) ?_ | with_reducible refine c_wantNum (by assumption) ?_ | with_reducible refine c_order ?_ | with_reducible refine c_whole ?_
  | (with_reducible refine c_shapeM (by assumption) ?_; intro _ _) | (with_reducible refine c_parts (by assumption) ?_; intro _ _ _ _) | (with_reducible refine c_value (by assumption) ?_; intro _ _ _ _) | (with_reducible refine c_rank (by assumption) ?_; intro _ _) | (with_reducible refine c_steps (by assumption) ?_; intro _ _)
  | (with_reducible refine c_word (by assumption) ?_; intro _ _) | (with_reducible refine c_nmnm (by assumption) ?_; intro _ _ _ _) | (with_reducible refine c_compare (by assumption) (by assumption) ?_; intro _ _) | (with_reducible refine c_moved (by assumption) ?_; intro _ _ _ _)
  | with_reducible refine c_eq (by assumption) (by assumption) ?_ | with_reducible refine c_ne (by assumption) (by assumption) ?_
  | with_reducible refine i_isNN ?_ | with_reducible refine i_isNI ?_ | with_reducible refine i_sfld ?_ | with_reducible refine i_make ?_ | with_reducible refine c_eqSh (by assumption) (by assumption) ?_ | with_reducible refine c_neSh (by assumption) (by assumption) ?_ | with_reducible refine c_ne2 (by assumption) (by assumption) ?_))
abbrev st_Number_init : Stmt := inClass (top 15) 0
theorem sc_Number_init : FnScope ["self", "shape", "sign", "significand", "exponent", "precision", "low", "high", "scale"] ["self", "shape", "sign", "significand", "exponent"] (defScope st_Number_init) := ⟨rfl, rfl, rfl, by decide +kernel, rfl, by decide +kernel, by decide +kernel⟩
abbrev st_Number_shape : Stmt := inClass (top 15) 1
theorem sc_Number_shape : FnScope ["self"] ["self"] (defScope st_Number_shape) := ⟨rfl, rfl, rfl, by decide +kernel, rfl, by decide +kernel, by decide +kernel⟩
abbrev st_Number_sign : Stmt := inClass (top 15) 2
theorem sc_Number_sign : FnScope ["self"] ["self"] (defScope st_Number_sign) := ⟨rfl, rfl, rfl, by decide +kernel, rfl, by decide +kernel, by decide +kernel⟩
abbrev st_Number_kind : Stmt := inClass (top 15) 3
theorem sc_Number_kind : FnScope ["self"] ["self"] (defScope st_Number_kind) := ⟨rfl, rfl, rfl, by decide +kernel, rfl, by decide +kernel, by decide +kernel⟩
abbrev st_Number_parts : Stmt := inClass (top 15) 4
theorem sc_Number_parts : FnScope ["self"] ["self"] (defScope st_Number_parts) := ⟨rfl, rfl, rfl, by decide +kernel, rfl, by decide +kernel, by decide +kernel⟩
abbrev st_steps_from_zero : Stmt := top 28
theorem sc_steps_from_zero : FnScope ["number", "significand", "exponent", "precision", "low", "high"] ["number"] (defScope st_steps_from_zero) := ⟨rfl, rfl, rfl, by decide +kernel, rfl, by decide +kernel, by decide +kernel⟩
abbrev st_Number_value : Stmt := inClass (top 15) 5
theorem sc_Number_value : FnScope ["self", "significand", "exponent"] ["self"] (defScope st_Number_value) := ⟨rfl, rfl, rfl, by decide +kernel, rfl, by decide +kernel, by decide +kernel⟩
abbrev st_Number_rank : Stmt := inClass (top 15) 6
theorem sc_Number_rank : FnScope ["self", "steps"] ["self"] (defScope st_Number_rank) := ⟨rfl, rfl, rfl, by decide +kernel, rfl, by decide +kernel, by decide +kernel⟩
abbrev st_Number_word : Stmt := inClass (top 15) 7
theorem sc_Number_word : FnScope ["self", "precision", "steps"] ["self"] (defScope st_Number_word) := ⟨rfl, rfl, rfl, by decide +kernel, rfl, by decide +kernel, by decide +kernel⟩
abbrev st_infinite : Stmt := top 16
theorem sc_infinite : FnScope ["shape", "sign", "made"] ["shape", "sign"] (defScope st_infinite) := ⟨rfl, rfl, rfl, by decide +kernel, rfl, by decide +kernel, by decide +kernel⟩
abbrev st_nan : Stmt := top 17
theorem sc_nan : FnScope ["shape", "made"] ["shape"] (defScope st_nan) := ⟨rfl, rfl, rfl, by decide +kernel, rfl, by decide +kernel, by decide +kernel⟩
section
variable {P : Program} {w : World} {K : PySem.W.Frag} {mg : Str → Option Value} {base : Heap} {C : Addr}
theorem ok_Number_init {f : Addr} {fd : FuncData} {dV kV : Value} (F : FunD K "__init__" "Number.__init__" st_Number_init f fd dV kV) (T : NumC K C) (G_FINITE : GStr mg "FINITE" "finite") (C_first_normal : Cal P w K mg base 1 "first_normal" ["shape"] (spShInt K Dw.Sh.fn)) (C_want_whole : Cal P w K mg base 2 "want_whole" ["thing", "least", "most", "what"] (spWantWhole)) (C_want_shape : Cal P w K mg base 3 "want_shape" ["thing"] (spWantShape K)) :
    FnOk P w K mg base CX0 4 f fd ["self", "shape", "sign", "significand", "exponent"] (spInit K C) := by
  refine F.okW sc_Number_init (spF.len fun _ => rfl) (fun cdv A outer s H vs Q E hr h => ?_)
  refine (?_ : ∃ t, Wr (PSs _ _ t) ∧ t _ _ _)
  obtain ⟨⟨x, dx, v, n, bb⟩, rfl, hx, hs, ok, h0, hb, q⟩ := h
  simp only at *
  obtain ⟨_, sh, rfl, _⟩ := id hs
  have := ok.s01; have := ok.m0; have := ok.m1; have := ok.e0; have := ok.e1; have := ok.sh.full; have := ok.sh.p2; have := ok.sh.p64; have nrm := ok.nrm
  have fs : ∀ σ' : St, ∀ D : Ends, (D.nx = fun _ H' => Q .non H') → σ'[0]? = some (some (.ref x)) → σ'[1]? = some (some (.ref sh)) → σ'[2]? = some (some (.int n.s)) → σ'[3]? = some (some (.int n.m)) → σ'[8]? = some (some (.int n.e)) →
      tSeq (sFld K (tVar 0) (tVar 1) "own_shape") (tSeq (sFld K (tVar 0) (tVar 2) "own_sign") (tSeq (sFld K (tVar 0) (tVar 3) "own_significand") (tSeq (sFld K (tVar 0) (tVar 8) "own_exponent") (sFld K (tVar 0) (tC (.str "finite")) "state")))) D σ' H := by
    intro σ' D hD e0 e1 e2 e3 e8
    refine i_seq (i_sfld ⟨_, e1, _, e0, s_fld hx T.cl T.nSh (by decide) fun H1 k1 g1 => ?_⟩)
    refine i_seq (t := sFld K (tVar 0) (tVar 2) "own_sign") (D := D) (i_sfld ⟨_, e2, _, e0, s_fld g1 T.cl T.nSi (by show (1 : Nat) < 1000; decide) fun H2 k2 g2 => ?_⟩)
    refine i_seq (t := sFld K (tVar 0) (tVar 3) "own_significand") (D := D) (i_sfld ⟨_, e3, _, e0, s_fld g2 T.cl T.nM (by show (2 : Nat) < 1000; decide) fun H3 k3 g3 => ?_⟩)
    refine i_seq (t := sFld K (tVar 0) (tVar 8) "own_exponent") (D := D) (i_sfld ⟨_, e8, _, e0, s_fld g3 T.cl T.nE (by show (3 : Nat) < 1000; decide) fun H4 k4 g4 => ?_⟩)
    change sFld K (tVar 0) (tC (.str "finite")) "state" D σ' H4
    refine i_sfld ⟨_, e0, s_fld g4 T.cl T.nSt (by show (4 : Nat) < 1000; decide) fun H5 k5 g5 => ?_⟩
    rw [hD]
    refine q sh H5 rfl (fun b o hb e => k5 _ _ hb (k4 _ _ hb (k3 _ _ hb (k2 _ _ hb (k1 _ _ hb e))))) ?_
    rw [g5]
    unfold flds stS
    rw [h0]
    rfl
  refine ⟨_, (wss_cons (ws_expr (we_cal C_want_shape (hr.mono (by decide)) (by rfl) (wa_cons (wv 1) wa_nil)))
        (wss_cons (ws_expr (we_cal C_want_whole (hr.mono (by decide)) (by rfl) (wa_cons (wv 2) (wa_cons we_int (wa_cons we_int (wa_cons we_str wa_nil))))))
        (wss_cons (ws_asg (wv 1) (wg_tup (n := 3) (by rfl) (wgs_cons (wg_name (i := 5) sc_Number_init.nd rfl (Or.inl rfl)) (wgs_cons (wg_name (i := 6) sc_Number_init.nd rfl (Or.inl rfl)) (wgs_cons (wg_name (i := 7) sc_Number_init.nd rfl (Or.inl rfl)) wgs_nil)))))
        (wss_cons (ws_expr (we_cal C_want_whole (hr.mono (by decide)) (by rfl) (wa_cons (wv 3) (wa_cons we_int (wa_cons (we_op op_sub (we_op op_shl we_int (wv 5)) we_int) (wa_cons we_str wa_nil))))))
        (wss_cons (ws_set (i := 8) sc_Number_init.nd rfl (Or.inl rfl) (we_ifExp (wt_cmpR op_isNM (wv 4) we_non (nomark _)) (wv 6) (wv 4)))
        (wss_cons (ws_expr (we_cal C_want_whole (hr.mono (by decide)) (by rfl) (wa_cons (wv 8) (wa_cons (wv 6) (wa_cons (wv 7) (wa_cons we_str wa_nil))))))
        (wss_cons (ws_if (ww_pt (ww_and (wt_cmpR op_gt (wv 8) (wv 6) (nomark _)) (ww_and1 (wt_cmpR op_lt (wv 3) (we_cal C_first_normal (hr.mono (by decide)) (by rfl) (wa_cons (wv 1) wa_nil)) (nomark _))))) (wss_one ws_never) wss_nil)
        (wss_cons (ws_fld (wv 0) (wv 1))
        (wss_cons (ws_fld (wv 0) (wv 2))
        (wss_cons (ws_fld (wv 0) (wv 3))
        (wss_cons (ws_fld (wv 0) (wv 8))
        (wss_one (ws_fld (wv 0) (we_gstr G_FINITE (by rfl))))))))))))))), ?_⟩
  simp only [cx_K, cx_K2]
  cases bb with
  | true =>
    have eb := hb rfl
    simp only [reduceIte]
    walk_at "nm"
    refine ifT' rfl ?_
    walk_at "nm"
    refine ifF' (by simp) ?_
    walk_at "nm"
    refine ifF' rfl ?_
    refine i_next ?_
    rw [← eb]
    exact fs _ _ rfl rfl rfl rfl rfl rfl
  | false =>
    simp only [Bool.false_eq_true, reduceIte]
    walk_at "nm"
    refine ifF' rfl ?_
    walk_at "nm"
    refine i_ite (fun z => ?_) (fun z => ?_)
    · walk_at "nm"
      refine ifF' (by have := of_decide_eq_true z; have := nrm (by omega); simp; omega) ?_
      refine i_next ?_
      exact fs _ _ rfl rfl rfl rfl rfl rfl
    · refine ifF' rfl ?_
      refine i_next ?_
      exact fs _ _ rfl rfl rfl rfl rfl rfl
theorem ok_Number_shape {f : Addr} {fd : FuncData} (F : Fun K "shape" "Number.shape" st_Number_shape f fd) (T : NumC K C) :
    FnOk P w K mg base CX0 1 f fd ["self"] (spShapeM K C) := by
  refine F.okW sc_Number_shape (spF.len fun _ => rfl) (fun cdv A outer s H vs Q E hr h => ?_)
  refine (?_ : ∃ t, Wr (PSs _ _ t) ∧ t _ _ _)
  obtain ⟨⟨v, n⟩, rfl, hv, q⟩ := h
  simp only at *
  refine ⟨_, (wss_one (ws_ret (we_fld (wv 0)))), ?_⟩
  (try simp only [cx_K, cx_K2])
  walk_at "nm"
  exact q _ (by assumption)
theorem ok_Number_sign {f : Addr} {fd : FuncData} (F : Fun K "sign" "Number.sign" st_Number_sign f fd) (T : NumC K C) :
    FnOk P w K mg base CX0 1 f fd ["self"] (spNmInt K C Dw.Nm.s) := by
  refine F.okW sc_Number_sign (spF.len fun _ => rfl) (fun cdv A outer s H vs Q E hr h => ?_)
  refine (?_ : ∃ t, Wr (PSs _ _ t) ∧ t _ _ _)
  obtain ⟨⟨v, n⟩, rfl, hv, q⟩ := h
  simp only at *
  refine ⟨_, (wss_one (ws_ret (we_fld (wv 0)))), ?_⟩
  (try simp only [cx_K, cx_K2])
  walk_at "nm"
  exact q
theorem ok_Number_kind {f : Addr} {fd : FuncData} (F : Fun K "kind" "Number.kind" st_Number_kind f fd) (T : NumC K C) (C_first_normal : Cal P w K mg base 1 "first_normal" ["shape"] (spShInt K Dw.Sh.fn)) (G_FINITE : GStr mg "FINITE" "finite") :
    FnOk P w K mg base CX0 2 f fd ["self"] (spKind K C) := by
  refine F.okW sc_Number_kind (spF.len fun _ => rfl) (fun cdv A outer s H vs Q E hr h => ?_)
  refine (?_ : ∃ t, Wr (PSs _ _ t) ∧ t _ _ _)
  obtain ⟨⟨v, n⟩, rfl, hv, q⟩ := h
  simp only at *
  have ok := hv.1
  refine ⟨_, (wss_cons (ws_if (wt_cmpR op_ne (we_fld (wv 0)) (we_gstr G_FINITE (by rfl)) (nomark _)) (wss_one (ws_ret (we_fld (wv 0)))) wss_nil)
        (wss_cons (ws_if (wt_cmpR op_eq (we_fld (wv 0)) we_int (nomark _)) (wss_one (ws_ret we_str)) wss_nil)
        (wss_cons (ws_if (wt_cmpR op_lt (we_fld (wv 0)) (we_cal C_first_normal (hr.mono (by decide)) (by rfl) (wa_cons (we_fld (wv 0)) wa_nil)) (nomark _)) (wss_one (ws_ret we_str)) wss_nil)
        (wss_one (ws_ret we_str))))), ?_⟩
  (try simp only [cx_K, cx_K2])
  walk_at "nm"
  rw [stS_fin ok.st2]
  unfold kindS at q
  by_cases h0 : n.st = 0
  · refine ifF' (by simp [h0]) ?_
    rw [if_pos h0] at q
    walk_at "nm"
    refine i_ite (fun z => ?_) (fun z => ?_)
    · walk_at "nm"
      rw [if_pos (of_decide_eq_true z)] at q
      exact q
    · rw [if_neg (of_decide_eq_false z)] at q
      walk_at "nm"
      refine i_ite (fun z => ?_) (fun z => ?_)
      · walk_at "nm"
        rw [if_pos (of_decide_eq_true z)] at q
        exact q
      · walk_at "nm"
        rw [if_neg (of_decide_eq_false z)] at q
        exact q
  · refine ifT' (by simp [h0]) ?_
    rw [if_neg h0] at q
    walk_at "nm"
    exact q
theorem ok_Number_parts {f : Addr} {fd : FuncData} (F : Fun K "parts" "Number.parts" st_Number_parts f fd) (T : NumC K C) (G_FINITE : GStr mg "FINITE" "finite") :
    FnOk P w K mg base CX0 1 f fd ["self"] (spParts K C) := by
  refine F.okW sc_Number_parts (spF.len fun _ => rfl) (fun cdv A outer s H vs Q E hr h => ?_)
  refine (?_ : ∃ t, Wr (PSs _ _ t) ∧ t _ _ _)
  obtain ⟨⟨v, n⟩, rfl, hv, h0, q⟩ := h
  simp only at *
  have ok := hv.1
  refine ⟨_, (wss_cons (ws_if (wt_cmpR op_ne (we_fld (wv 0)) (we_gstr G_FINITE (by rfl)) (nomark _)) (wss_one ws_never) wss_nil)
        (wss_one (ws_ret (we_tupA (wa_cons (we_fld (wv 0)) (wa_cons (we_fld (wv 0)) wa_nil)))))), ?_⟩
  (try simp only [cx_K, cx_K2])
  walk_at "nm"
  rw [stS_fin ok.st2]
  refine ifF' (by simp [h0]) ?_
  walk_at "nm"
  exact i_born2 (K := K) (fun p H' s e => q _ _ s e) rfl
theorem ok_steps_from_zero {f : Addr} {fd : FuncData} (F : Fun K "steps_from_zero" "steps_from_zero" st_steps_from_zero f fd) (C_first_normal : Cal P w K mg base 1 "first_normal" ["shape"] (spShInt K Dw.Sh.fn)) (T : NumC K C) (O_shape : CalO P w K mg base 1 C "shape" ["self"] (spShapeM K C)) (O_parts : CalO P w K mg base 1 C "parts" ["self"] (spParts K C)) (O_kind : CalO P w K mg base 2 C "kind" ["self"] (spKind K C)) (G_INFINITE : GStr mg "INFINITE" "infinite") (C_last_rank : Cal P w K mg base 2 "last_rank" ["shape"] (spShInt K Dw.Sh.last)) :
    FnOk P w K mg base CX0 3 f fd ["number"] (spSteps K C) := by
  refine F.okW sc_steps_from_zero (spF.len fun _ => rfl) (fun cdv A outer s H vs Q E hr h => ?_)
  refine (?_ : ∃ t, Wr (PSs _ _ t) ∧ t _ _ _)
  obtain ⟨⟨v, n⟩, rfl, hv, h2, q⟩ := h
  simp only at *
  have ok := hv.1
  have := ok.e0; have := ok.e1; have := ok.sh.l0; have := ok.sh.h1; have := ok.st2
  refine ⟨_, (wss_cons (ws_if (wt_cmpR op_eq (we_meth0 O_kind (hr.mono (by decide)) (wv 0)) (we_gstr G_INFINITE (by rfl)) (nomark _)) (wss_one (ws_ret (we_cal C_last_rank (hr.mono (by decide)) (by rfl) (wa_cons (we_meth0 O_shape (hr.mono (by decide)) (wv 0)) wa_nil)))) wss_nil)
        (wss_cons (ws_asg (we_meth0 O_parts (hr.mono (by decide)) (wv 0)) (wg_tup (n := 2) (by rfl) (wgs_cons (wg_name (i := 1) sc_steps_from_zero.nd rfl (Or.inl rfl)) (wgs_cons (wg_name (i := 2) sc_steps_from_zero.nd rfl (Or.inl rfl)) wgs_nil))))
        (wss_cons (ws_asg (we_meth0 O_shape (hr.mono (by decide)) (wv 0)) (wg_tup (n := 3) (by rfl) (wgs_cons (wg_name (i := 3) sc_steps_from_zero.nd rfl (Or.inl rfl)) (wgs_cons (wg_name (i := 4) sc_steps_from_zero.nd rfl (Or.inl rfl)) (wgs_cons (wg_name (i := 5) sc_steps_from_zero.nd rfl (Or.inl rfl)) wgs_nil)))))
        (wss_one (ws_ret (we_op op_add (wv 1) (we_op op_mul (we_op op_sub (wv 2) (wv 4)) (we_cal C_first_normal (hr.mono (by decide)) (by rfl) (wa_cons (we_meth0 O_shape (hr.mono (by decide)) (wv 0)) wa_nil))))))))), ?_⟩
  (try simp only [cx_K, cx_K2])
  walk_at "nm"
  rw [kindS_inf ok]
  unfold Nm.steps at q
  refine i_ite (fun z => ?_) (fun z => ?_)
  · walk_at "nm"
    rw [if_pos (of_decide_eq_true z)] at q
    exact fin q
  · have z' := of_decide_eq_false z
    rw [if_neg z'] at q
    walk_at "nm"
    exact fin q
theorem ok_Number_value {f : Addr} {fd : FuncData} (F : Fun K "value" "Number.value" st_Number_value f fd) (C_by_twos : Cal P w K mg base 1 "by_twos" ["numerator", "exponent"] (spByTwos K)) (T : NumC K C) (O_parts : CalO P w K mg base 1 C "parts" ["self"] (spParts K C)) :
    FnOk P w K mg base CX0 2 f fd ["self"] (spValue K C) := by
  refine F.okW sc_Number_value (spF.len fun _ => rfl) (fun cdv A outer s H vs Q E hr h => ?_)
  refine (?_ : ∃ t, Wr (PSs _ _ t) ∧ t _ _ _)
  obtain ⟨⟨v, n⟩, rfl, hv, h0, q⟩ := h
  simp only at *
  have ok := hv.1
  have := ok.m0; have := ok.m1; have := ok.sh.fnB; have := ok.e0; have := ok.e1; have := ok.sh.l0; have := ok.sh.h1
  have hnum : n.num = if 0 ≤ n.e then n.sx * 2 ^ n.e.toNat else hvN n.sx (-n.e).toNat := rfl
  have hden : n.den = if 0 ≤ n.e then 1 else hvD n.sx (-n.e).toNat := rfl
  have hsx : -(18446744073709551616 : Int) < n.sx ∧ n.sx < 18446744073709551616 := by
    rcases sx_cases n ok with ⟨_, e⟩ | ⟨_, e⟩ <;> rw [e] <;> omega
  refine ⟨_, (wss_cons (ws_asg (we_meth0 O_parts (hr.mono (by decide)) (wv 0)) (wg_tup (n := 2) (by rfl) (wgs_cons (wg_name (i := 1) sc_Number_value.nd rfl (Or.inl rfl)) (wgs_cons (wg_name (i := 2) sc_Number_value.nd rfl (Or.inl rfl)) wgs_nil))))
        (wss_one (ws_ret (we_cal C_by_twos (hr.mono (by decide)) (by rfl) (wa_cons (we_ifExp (wt_cmpR op_eq (we_fld (wv 0)) we_int (nomark _)) (we_un un_neg (wv 1)) (wv 1)) (wa_cons (wv 2) wa_nil)))))), ?_⟩
  (try simp only [cx_K, cx_K2])
  walk_at "nm"
  have go : ∀ {H' : Hp}, Sm H H' → spByTwos K [.int n.sx, .int n.e] H' Q E := fun s0 => by
    refine ⟨⟨n.sx, n.e⟩, rfl, ⟨hsx.1, hsx.2, by omega, by omega⟩, fun w H' s e => ?_⟩
    simp only at e
    rw [← hnum, ← hden] at e
    exact q _ _ ⟨s0.s.trans s.s⟩ e
  refine i_ite (fun z => ?_) (fun z => ?_)
  · have ei : -n.m = n.sx := by unfold Nm.sx; rw [if_pos (of_decide_eq_true z)]
    walk_at "nm"
    rw [ei]
    skip
    exact go inferInstance
  · have ei : n.m = n.sx := by unfold Nm.sx; rw [if_neg (of_decide_eq_false z)]
    walk_at "nm"
    rw [ei]
    skip
    exact go inferInstance
theorem ok_Number_rank {f : Addr} {fd : FuncData} (F : Fun K "rank" "Number.rank" st_Number_rank f fd) (T : NumC K C) (C_steps_from_zero : Cal P w K mg base 3 "steps_from_zero" ["number"] (spSteps K C)) (G_NAN : GStr mg "NAN" "nan") :
    FnOk P w K mg base CX0 4 f fd ["self"] (spRank K C) := by
  refine F.okW sc_Number_rank (spF.len fun _ => rfl) (fun cdv A outer s H vs Q E hr h => ?_)
  refine (?_ : ∃ t, Wr (PSs _ _ t) ∧ t _ _ _)
  obtain ⟨⟨v, n⟩, rfl, hv, h2, q⟩ := h
  simp only at *
  have ok := hv.1
  refine ⟨_, (wss_cons (ws_if (wt_cmpR op_eq (we_fld (wv 0)) (we_gstr G_NAN (by rfl)) (nomark _)) (wss_one ws_never) wss_nil)
        (wss_cons (ws_set (i := 1) sc_Number_rank.nd rfl (Or.inl rfl) (we_cal C_steps_from_zero (hr.mono (by decide)) (by rfl) (wa_cons (wv 0) wa_nil)))
        (wss_one (ws_ret (we_ifExp (wt_cmpR op_eq (we_fld (wv 0)) we_int (nomark _)) (we_un un_neg (wv 1)) (wv 1)))))), ?_⟩
  (try simp only [cx_K, cx_K2])
  walk_at "nm"
  rw [stS_nan ok.st2]
  refine ifF' (by simp [h2]) ?_
  walk_at "nm"
  unfold Nm.rank at q
  refine i_ite (fun z => ?_) (fun z => ?_)
  · walk_at "nm"
    rw [if_pos (of_decide_eq_true z)] at q
    exact fin q
  · walk_at "nm"
    rw [if_neg (of_decide_eq_false z)] at q
    exact fin q
theorem ok_Number_word {f : Addr} {fd : FuncData} (F : Fun K "word" "Number.word" st_Number_word f fd) (T : NumC K C) (C_sign_word : Cal P w K mg base 2 "sign_word" ["shape"] (spShInt K Dw.Sh.sgnW)) (G_INFINITE : GStr mg "INFINITE" "infinite") (C_top_word : Cal P w K mg base 2 "top_word" ["shape"] (spShInt K Dw.Sh.topW)) (C_steps_from_zero : Cal P w K mg base 3 "steps_from_zero" ["number"] (spSteps K C)) (G_NAN : GStr mg "NAN" "nan") :
    FnOk P w K mg base CX0 4 f fd ["self"] (spWord K C) := by
  refine F.okW sc_Number_word (spF.len fun _ => rfl) (fun cdv A outer s H vs Q E hr h => ?_)
  refine (?_ : ∃ t, Wr (PSs _ _ t) ∧ t _ _ _)
  obtain ⟨⟨v, n⟩, rfl, hv, q⟩ := h
  simp only at *
  have ok := hv.1
  have := ok.sh.p2; have := ok.sh.p64; have := ok.st2
  refine ⟨_, (wss_cons (ws_if (wt_cmpR op_eq (we_fld (wv 0)) (we_gstr G_NAN (by rfl)) (nomark _)) (wss_cons (ws_set (i := 1) sc_Number_word.nd rfl (Or.inl rfl) (we_ix ix_tup (we_fld (wv 0)) we_int (fun _ _ => rfl)))
        (wss_one (ws_ret (we_op op_add (we_cal C_top_word (hr.mono (by decide)) (by rfl) (wa_cons (we_fld (wv 0)) wa_nil)) (we_op op_shl we_int (we_op op_sub (wv 1) we_int)))))) wss_nil)
        (wss_cons (ws_set (i := 2) sc_Number_word.nd rfl (Or.inl rfl) (we_ifExp (wt_cmpR op_eq (we_fld (wv 0)) (we_gstr G_INFINITE (by rfl)) (nomark _)) (we_cal C_top_word (hr.mono (by decide)) (by rfl) (wa_cons (we_fld (wv 0)) wa_nil)) (we_cal C_steps_from_zero (hr.mono (by decide)) (by rfl) (wa_cons (wv 0) wa_nil))))
        (wss_one (ws_ret (we_ifExp (wt_cmpR op_eq (we_fld (wv 0)) we_int (nomark _)) (we_op op_add (wv 2) (we_cal C_sign_word (hr.mono (by decide)) (by rfl) (wa_cons (we_fld (wv 0)) wa_nil))) (wv 2)))))), ?_⟩
  (try simp only [cx_K, cx_K2])
  walk_at "nm"
  rw [stS_nan ok.st2]
  unfold Nm.word at q
  refine i_ite (fun z => ?_) (fun z => ?_)
  · rw [if_pos (of_decide_eq_true z)] at q
    walk_at "nm"
    rw [Int.one_mul]
    exact fin q
  · have z' := of_decide_eq_false z
    rw [if_neg z'] at q
    walk_at "nm"
    rw [stS_inf ok.st2]
    unfold Nm.wst at q
    refine i_ite (fun y => ?_) (fun y => ?_)
    · rw [if_pos (of_decide_eq_true y)] at q
      walk_at "nm"
      refine i_ite (fun x => ?_) (fun x => ?_)
      · rw [if_pos (of_decide_eq_true x)] at q
        walk_at "nm"
        exact fin q
      · rw [if_neg (of_decide_eq_false x)] at q
        walk_at "nm"
        exact fin q
    · have y' := of_decide_eq_false y
      rw [if_neg y'] at q
      have es : n.steps = n.stp := by unfold Nm.steps; rw [if_neg y']
      walk_at "nm"
      rw [es]
      refine i_ite (fun x => ?_) (fun x => ?_)
      · rw [if_pos (of_decide_eq_true x)] at q
        walk_at "nm"
        exact fin q
      · rw [if_neg (of_decide_eq_false x)] at q
        walk_at "nm"
        exact fin q
theorem ok_infinite {f : Addr} {fd : FuncData} {dV kV : Value} (F : FunD K "infinite" "infinite" st_infinite f fd dV kV) (T : NumC K C) (G_INFINITE : GStr mg "INFINITE" "infinite") (M_Number_1_sign : CalM P w K mg base 4 "Number" C ["self", "shape", "sign", "significand", "exponent"] ["sign"] gV_Number_init_2_sign (spInit K C)) :
    FnOk P w K mg base CX0 6 f fd ["shape", "sign"] (spInf K C) := by
  refine F.okW sc_infinite (spF.len fun _ => rfl) (fun cdv A outer s H vs Q E hr h => ?_)
  refine (?_ : ∃ t, Wr (PSs _ _ t) ∧ t _ _ _)
  obtain ⟨⟨v, s1, S⟩, rfl, hs, h01, q⟩ := h
  simp only at *
  have ok := hs.1
  refine ⟨_, (wss_cons (ws_set (i := 2) sc_infinite.nd rfl (Or.inl rfl) (we_makeK M_Number_1_sign (hr.mono (by decide)) (by rfl) (wa_cons (wv 0) wa_nil) (wk_cons (wv 1) wk_nil)))
        (wss_cons (ws_fld (wv 2) (we_gstr G_INFINITE (by rfl)))
        (wss_one (ws_ret (wv 2))))), ?_⟩
  (try simp only [cx_K, cx_K2])
  walk_at "nm"
  refine c_newF (n := S.zero s1) (bb := true) hs (ok.zeroOk h01) rfl (fun _ => rfl) fun x dx sh H1 nx st1 ex sx => ?_
  walk_at "nm"
  refine s_fld ex T.cl T.nSt (by show 5 < 1000; decide) fun H2 k2 e2 => ?_
  walk_at "nm"
  exact q _ H2 ⟨fun b o e => k2 b o (ne_of_none e nx) (st1.s b o e)⟩ ⟨ok.infOk h01, x, dx, sh, rfl, e2, sx.but ex k2⟩
theorem ok_nan {f : Addr} {fd : FuncData} {dV kV : Value} (F : FunD K "nan" "nan" st_nan f fd dV kV) (T : NumC K C) (G_NAN : GStr mg "NAN" "nan") (M_Number_1 : CalM P w K mg base 4 "Number" C ["self", "shape", "sign", "significand", "exponent"] [] gV_Number_init_2 (spInit K C)) :
    FnOk P w K mg base CX0 6 f fd ["shape"] (spNan K C) := by
  refine F.okW sc_nan (spF.len fun _ => rfl) (fun cdv A outer s H vs Q E hr h => ?_)
  refine (?_ : ∃ t, Wr (PSs _ _ t) ∧ t _ _ _)
  obtain ⟨⟨v, S⟩, rfl, hs, q⟩ := h
  simp only at *
  have ok := hs.1
  refine ⟨_, (wss_cons (ws_set (i := 1) sc_nan.nd rfl (Or.inl rfl) (we_makeD M_Number_1 (hr.mono (by decide)) (by rfl) (wa_cons (wv 0) wa_nil)))
        (wss_cons (ws_fld (wv 1) (we_gstr G_NAN (by rfl)))
        (wss_one (ws_ret (wv 1))))), ?_⟩
  (try simp only [cx_K, cx_K2])
  walk_at "nm"
  refine c_newF (n := S.zero 0) (bb := true) hs (ok.zeroOk (.inl rfl)) rfl (fun _ => rfl) fun x dx sh H1 nx st1 ex sx => ?_
  walk_at "nm"
  refine s_fld ex T.cl T.nSt (by show 5 < 1000; decide) fun H2 k2 e2 => ?_
  walk_at "nm"
  exact q _ H2 ⟨fun b o e => k2 b o (ne_of_none e nx) (st1.s b o e)⟩ ⟨ok.nanOk, x, dx, sh, rfl, e2, sx.but ex k2⟩
end
end K17

set_option Elab.async false
set_option linter.all false
set_option maxRecDepth 100000
set_option maxHeartbeats 4000000
namespace K17
open PySem L2 Dw
local macro_rules | `(tactic| walk_at "nm") => `(tactic| repeat' (first
  | with_reducible refine i_seq ?_ | with_reducible refine i_asg ?_ | with_reducible refine i_ret ?_ | with_reducible refine i_drop ?_ | with_reducible refine i_ifS ?_ | with_reducible refine i_next ?_
  | with_reducible refine i_cons ?_ | with_reducible refine i_nil ?_ | with_reducible refine i_op ?_ | with_reducible refine i_un ?_ | with_reducible refine i_c ?_
  | with_reducible refine i_var ?_
  | with_reducible refine i_rI0 ?_ | with_reducible refine i_rU ?_
  | with_reducible refine i_rIa ?_
  | with_reducible refine i_test ?_ | with_reducible refine i_b ?_ | with_reducible refine i_bl ?_ | with_reducible refine i_if ?_ | with_reducible refine i_and ?_ | with_reducible refine i_or ?_ | with_reducible refine i_not ?_
  | with_reducible refine i_andV ?_ | with_reducible refine i_orV ?_ | with_reducible refine i_notV ?_ | with_reducible refine i_cb ?_ | with_reducible refine i_tup ?_ | with_reducible refine i_lst ?_ | with_reducible refine i_dget ?_
  | with_reducible refine i_gname ?_ | with_reducible refine i_chain ?_ | with_reducible refine i_eqI ?_ | with_reducible refine i_neI ?_ | with_reducible refine i_sl ?_ | with_reducible refine i_nopart ?_ | with_reducible refine i_part ?_ | with_reducible refine i_int ?_ | with_reducible refine i_par ?_ | with_reducible refine i_two ?_ | with_reducible refine i_strs ?_ | with_reducible refine i_isB ?_ | with_reducible refine i_isntB ?_ | with_reducible refine i_for ?_ | with_reducible refine i_itup ?_ | with_reducible refine i_ilist ?_ | with_reducible refine i_rng1 ?_
  | with_reducible refine i_fld ?_ | with_reducible refine f_sign (by assumption) (by assumption) ?_ | with_reducible refine f_m (by assumption) (by assumption) ?_ | with_reducible refine f_e (by assumption) (by assumption) ?_ | with_reducible refine f_state (by assumption) (by assumption) ?_
  | (with_reducible refine f_shape (by assumption) (by assumption) ?_; intro _ _)
  | with_reducible refine i_meth0 ?_ | with_reducible refine m_num (by assumption) ?_ | with_reducible refine i_call ?_ | with_reducible refine i_callP ?_ | with_reducible refine i_eqS ?_
  | with_reducible refine i_ixSh0 (by assumption) ?_ | with_reducible refine i_ixSh1 (by assumption) ?_ | with_reducible refine i_ixSh2 (by assumption) ?_ | with_reducible refine g_sh3 (by assumption) ?_ | with_reducible refine g_two (by assumption) ?_
  | with_reducible refine i_ixTup (by assumption) ?_
  | with_reducible refine i_fdB ?_ | with_reducible refine i_bm0 ?_ | with_reducible refine i_bits ?_ | with_reducible refine i_max ?_ | with_reducible refine i_min ?_ | with_reducible refine i_abs ?_ | with_reducible refine i_mul ?_ | with_reducible refine i_shl ?_
  | with_reducible refine c_shape (by assumption) ?_ | with_reducible refine c_shint (by assumption) ?_ | with_reducible refine c_nmint (by assumption) ?_ | with_reducible refine c_kind (by assumption) ?_ | with_reducible refine c_wantNum (by assumption) ?_ | with_reducible refine c_order ?_ | with_reducible refine c_whole ?_
  | (with_reducible refine c_shapeM (by assumption) ?_; intro _ _) | (with_reducible refine c_parts (by assumption) ?_; intro _ _ _ _) | (with_reducible refine c_value (by assumption) ?_; intro _ _ _ _) | (with_reducible refine c_rank (by assumption) ?_; intro _ _) | (with_reducible refine c_steps (by assumption) ?_; intro _ _)
  | (with_reducible refine c_word (by assumption) ?_; intro _ _) | (with_reducible refine c_nmnm (by assumption) ?_; intro _ _ _ _) | (with_reducible refine c_compare (by assumption) (by assumption) ?_; intro _ _) | (with_reducible refine c_moved (by assumption) ?_; intro _ _ _ _)
  | with_reducible refine c_eq (by assumption) (by assumption) ?_ | with_reducible refine c_ne (by assumption) (by assumption) ?_
  | with_reducible refine i_isNN ?_ | with_reducible refine i_isNI ?_ | with_reducible refine i_sfld ?_ | with_reducible refine i_make ?_ | with_reducible refine c_eqSh (by assumption) (by assumption) ?_ | with_reducible refine c_neSh (by assumption) (by assumption) ?_ | with_reducible refine c_ne2 (by assumption) (by assumption) ?_))
def cmpV (a b : Nm) : V := if a.st = 2 ∨ b.st = 2 then .non else .int (cmpN a b)
def spCompareN (K : PySem.W.Frag) (C : Addr) : Sp := spF (fun x : V × V × Nm × Nm => [x.1, x.2.1]) fun x H Q => NumAt K C H x.1 x.2.2.1 ∧ NumAt K C H x.2.1 x.2.2.2 ∧ ∀ H', Stp H H' → Q (cmpV x.2.2.1 x.2.2.2) H'
abbrev st_by_steps : Stmt := top 29
theorem sc_by_steps : FnScope ["steps", "shape", "sign", "first", "rise"] ["steps", "shape", "sign"] (defScope st_by_steps) := ⟨rfl, rfl, rfl, by decide +kernel, rfl, by decide +kernel, by decide +kernel⟩
abbrev st_by_rank : Stmt := top 18
theorem sc_by_rank : FnScope ["rank", "shape", "last"] ["rank", "shape"] (defScope st_by_rank) := ⟨rfl, rfl, rfl, by decide +kernel, rfl, by decide +kernel, by decide +kernel⟩
abbrev st_by_word : Stmt := top 19
theorem sc_by_word : FnScope ["word", "shape", "signed", "sign", "steps", "top"] ["word", "shape"] (defScope st_by_word) := ⟨rfl, rfl, rfl, by decide +kernel, rfl, by decide +kernel, by decide +kernel⟩
abbrev st_want_number : Stmt := top 22
theorem sc_want_number : FnScope ["thing"] ["thing"] (defScope st_want_number) := ⟨rfl, rfl, rfl, by decide +kernel, rfl, by decide +kernel, by decide +kernel⟩
abbrev st_moved : Stmt := top 30
theorem sc_moved : FnScope ["number", "step", "shape", "rank"] ["number", "step"] (defScope st_moved) := ⟨rfl, rfl, rfl, by decide +kernel, rfl, by decide +kernel, by decide +kernel⟩
abbrev st_Number_up : Stmt := inClass (top 15) 8
theorem sc_Number_up : FnScope ["self"] ["self"] (defScope st_Number_up) := ⟨rfl, rfl, rfl, by decide +kernel, rfl, by decide +kernel, by decide +kernel⟩
abbrev st_Number_down : Stmt := inClass (top 15) 9
theorem sc_Number_down : FnScope ["self"] ["self"] (defScope st_Number_down) := ⟨rfl, rfl, rfl, by decide +kernel, rfl, by decide +kernel, by decide +kernel⟩
abbrev st_Number_negated : Stmt := inClass (top 15) 10
theorem sc_Number_negated : FnScope ["self", "significand", "exponent"] ["self"] (defScope st_Number_negated) := ⟨rfl, rfl, rfl, by decide +kernel, rfl, by decide +kernel, by decide +kernel⟩
abbrev st_Number_eq : Stmt := inClass (top 15) 11
theorem sc_Number_eq : FnScope ["self", "other"] ["self", "other"] (defScope st_Number_eq) := ⟨rfl, rfl, rfl, by decide +kernel, rfl, by decide +kernel, by decide +kernel⟩
abbrev st_side : Stmt := top 32
theorem sc_side : FnScope ["number"] ["number"] (defScope st_side) := ⟨rfl, rfl, rfl, by decide +kernel, rfl, by decide +kernel, by decide +kernel⟩
abbrev st_compare : Stmt := top 20
theorem sc_compare : FnScope ["one", "other", "above", "below", "other_above", "other_below"] ["one", "other"] (defScope st_compare) := ⟨rfl, rfl, rfl, by decide +kernel, rfl, by decide +kernel, by decide +kernel⟩
abbrev st_between : Stmt := top 21
theorem sc_between : FnScope ["one", "other"] ["one", "other"] (defScope st_between) := ⟨rfl, rfl, rfl, by decide +kernel, rfl, by decide +kernel, by decide +kernel⟩
section
variable {P : Program} {w : World} {K : PySem.W.Frag} {mg : Str → Option Value} {base : Heap} {C : Addr}
theorem ok_by_steps {f : Addr} {fd : FuncData} (F : Fun K "by_steps" "by_steps" st_by_steps f fd) (M_Number_1_sign_significand_exponent : CalM P w K mg base 4 "Number" C ["self", "shape", "sign", "significand", "exponent"] ["sign", "significand", "exponent"] gV_Number_init_2_sign_significand_exponent (spInit K C)) (nb_max : mg "max" = none) (C_first_normal : Cal P w K mg base 1 "first_normal" ["shape"] (spShInt K Dw.Sh.fn)) (C_last_rank : Cal P w K mg base 2 "last_rank" ["shape"] (spShInt K Dw.Sh.last)) (K_infinite_1_sign : CalK P w K mg base 6 "infinite" ["shape", "sign"] ["sign"] gV_infinite_1_sign (spInf K C)) :
    FnOk P w K mg base CX0 7 f fd ["steps", "shape", "sign"] (spBySteps K C) := by
  refine F.okW sc_by_steps (spF.len fun _ => rfl) (fun cdv A outer s H vs Q E hr h => ?_)
  refine (?_ : ∃ t, Wr (PSs _ _ t) ∧ t _ _ _)
  obtain ⟨⟨i, v, s1, S⟩, rfl, hs, h01, i0, i1, q⟩ := h
  simp only at *
  have ok := hs.1
  have f2 := ok.fn2; have fB := ok.fnB; have lB := ok.lastB
  refine ⟨_, (wss_cons (ws_if (wt_cmpR op_eq (wv 0) (we_cal C_last_rank (hr.mono (by decide)) (by rfl) (wa_cons (wv 1) wa_nil)) (nomark _)) (wss_one (ws_ret (we_calP K_infinite_1_sign (hr.mono (by decide)) (by rfl) (wa_cons (wv 1) wa_nil) (wk_cons (wv 2) wk_nil)))) wss_nil)
        (wss_cons (ws_set (i := 3) sc_by_steps.nd rfl (Or.inl rfl) (we_cal C_first_normal (hr.mono (by decide)) (by rfl) (wa_cons (wv 1) wa_nil)))
        (wss_cons (ws_set (i := 4) sc_by_steps.nd rfl (Or.inl rfl) (we_callB (call_maxM rfl) (by rfl) nb_max (by decide +kernel) (wa_cons we_int (wa_cons (we_op op_sub (we_op op_fdivM (wv 0) (wv 3)) we_int) wa_nil))))
        (wss_one (ws_ret (we_makeK M_Number_1_sign_significand_exponent (hr.mono (by decide)) (by rfl) (wa_cons (wv 1) wa_nil) (wk_cons (wv 2) (wk_cons (we_op op_sub (wv 0) (we_op op_mul (wv 4) (wv 3))) (wk_cons (we_op op_add (we_ix ix_tup (wv 1) we_int (fun _ _ => rfl)) (wv 4)) wk_nil))))))))), ?_⟩
  (try simp only [cx_K, cx_K2])
  walk_at "nm"
  refine i_ite (fun z => ?_) (fun z => ?_)
  · have z' := of_decide_eq_true z
    walk_at "nm"
    dsimp only [gV_infinite_1_sign]
    refine c_inf hs fun w H' st hn => q w H' st ?_
    unfold Sh.ofSteps
    rw [if_pos z']
    exact hn
  · have z' := of_decide_eq_false z
    obtain ⟨o1, o2, o3, o4, o5⟩ := ok.stepsOk i0 i1 h01
    walk_at "nm"
    rw [show maxI 0 (i / S.fn - 1) = S.rise i from rfl]
    have en : S.ofSteps i s1 = ⟨S, s1, i - S.rise i * S.fn, S.lo + S.rise i, 0⟩ := by unfold Sh.ofSteps; rw [if_neg z']
    rw [en] at q o1
    exact c_new (n := ⟨S, s1, i - S.rise i * S.fn, S.lo + S.rise i, 0⟩) (bb := false) hs o1 rfl (fun z => nomatch z) q
theorem ok_by_rank {f : Addr} {fd : FuncData} {dV kV : Value} (F : FunD K "by_rank" "by_rank" st_by_rank f fd dV kV) (C_by_steps : Cal P w K mg base 7 "by_steps" ["steps", "shape", "sign"] (spBySteps K C)) (nb_abs : mg "abs" = none) (C_want_whole : Cal P w K mg base 2 "want_whole" ["thing", "least", "most", "what"] (spWantWhole)) (C_last_rank : Cal P w K mg base 2 "last_rank" ["shape"] (spShInt K Dw.Sh.last)) (C_want_shape : Cal P w K mg base 3 "want_shape" ["thing"] (spWantShape K)) :
    FnOk P w K mg base CX0 8 f fd ["rank", "shape"] (spByRank K C) := by
  refine F.okW sc_by_rank (spF.len fun _ => rfl) (fun cdv A outer s H vs Q E hr h => ?_)
  refine (?_ : ∃ t, Wr (PSs _ _ t) ∧ t _ _ _)
  obtain ⟨⟨r, v, S⟩, rfl, hs, h1, h2, q⟩ := h
  simp only at *
  have ok := hs.1
  have a0 : 0 ≤ absI r := by unfold absI; split <;> omega
  have a1 : absI r ≤ S.last := by unfold absI; split <;> omega
  unfold rankN at q
  refine ⟨_, (wss_cons (ws_expr (we_cal C_want_shape (hr.mono (by decide)) (by rfl) (wa_cons (wv 1) wa_nil)))
        (wss_cons (ws_set (i := 2) sc_by_rank.nd rfl (Or.inl rfl) (we_cal C_last_rank (hr.mono (by decide)) (by rfl) (wa_cons (wv 1) wa_nil)))
        (wss_cons (ws_expr (we_cal C_want_whole (hr.mono (by decide)) (by rfl) (wa_cons (wv 0) (wa_cons (we_un un_neg (wv 2)) (wa_cons (wv 2) (wa_cons we_str wa_nil))))))
        (wss_one (ws_ret (we_cal C_by_steps (hr.mono (by decide)) (by rfl) (wa_cons (we_callB call_absM (by rfl) nb_abs (by decide +kernel) (wa_cons (wv 0) wa_nil)) (wa_cons (wv 1) (wa_cons (we_ifExp (wt_cmpR op_lt (wv 0) we_int (nomark _)) we_int we_int) wa_nil))))))))), ?_⟩
  (try simp only [cx_K, cx_K2])
  walk_at "nm"
  refine i_ite (fun z => ?_) (fun z => ?_)
  · walk_at "nm"
    rw [if_pos (of_decide_eq_true z)] at q
    exact c_bySteps hs a0 a1 q
  · walk_at "nm"
    rw [if_neg (of_decide_eq_false z)] at q
    exact c_bySteps hs a0 a1 q
theorem ok_by_word {f : Addr} {fd : FuncData} {dV kV : Value} (F : FunD K "by_word" "by_word" st_by_word f fd dV kV) (C_by_steps : Cal P w K mg base 7 "by_steps" ["steps", "shape", "sign"] (spBySteps K C)) (C_last_rank : Cal P w K mg base 2 "last_rank" ["shape"] (spShInt K Dw.Sh.last)) (K_infinite_1_sign : CalK P w K mg base 6 "infinite" ["shape", "sign"] ["sign"] gV_infinite_1_sign (spInf K C)) (K_nan_1 : CalK P w K mg base 6 "nan" ["shape"] [] gV_nan_1 (spNan K C)) (C_top_word : Cal P w K mg base 2 "top_word" ["shape"] (spShInt K Dw.Sh.topW)) (nb_divmod : mg "divmod" = none) (C_want_whole : Cal P w K mg base 2 "want_whole" ["thing", "least", "most", "what"] (spWantWhole)) (C_sign_word : Cal P w K mg base 2 "sign_word" ["shape"] (spShInt K Dw.Sh.sgnW)) (C_want_shape : Cal P w K mg base 3 "want_shape" ["thing"] (spWantShape K)) :
    FnOk P w K mg base CX0 8 f fd ["word", "shape"] (spByWord K C) := by
  refine F.okW sc_by_word (spF.len fun _ => rfl) (fun cdv A outer s H vs Q E hr h => ?_)
  refine (?_ : ∃ t, Wr (PSs _ _ t) ∧ t _ _ _)
  obtain ⟨⟨x, v, S⟩, rfl, hs, h1, h2, h3, q⟩ := h
  simp only at *
  have ok := hs.1
  have sB := ok.sgnB; have f2 := ok.fn2; have tS := ok.topSgn; have lT := ok.lastTop; have l4 := ok.last4
  have m0 := Int.emod_nonneg x (show S.sgnW ≠ 0 by omega)
  have m1 := Int.emod_lt_of_pos x (show 0 < S.sgnW by omega)
  have d0 : 0 ≤ x / S.sgnW := Int.ediv_nonneg h1 (by omega)
  have d1 : x / S.sgnW < 2 := Int.ediv_lt_of_lt_mul (by omega) (by omega)
  refine ⟨_, (wss_cons (ws_expr (we_cal C_want_shape (hr.mono (by decide)) (by rfl) (wa_cons (wv 1) wa_nil)))
        (wss_cons (ws_set (i := 2) sc_by_word.nd rfl (Or.inl rfl) (we_cal C_sign_word (hr.mono (by decide)) (by rfl) (wa_cons (wv 1) wa_nil)))
        (wss_cons (ws_expr (we_cal C_want_whole (hr.mono (by decide)) (by rfl) (wa_cons (wv 0) (wa_cons we_int (wa_cons (we_op op_sub (we_op op_mul we_int (wv 2)) we_int) (wa_cons we_str wa_nil))))))
        (wss_cons (ws_asg (we_callB call_divmodB (by rfl) nb_divmod (by decide +kernel) (wa_cons (wv 0) (wa_cons (wv 2) wa_nil))) (wg_tup (n := 2) (by rfl) (wgs_cons (wg_name (i := 3) sc_by_word.nd rfl (Or.inl rfl)) (wgs_cons (wg_name (i := 4) sc_by_word.nd rfl (Or.inl rfl)) wgs_nil))))
        (wss_cons (ws_set (i := 5) sc_by_word.nd rfl (Or.inl rfl) (we_cal C_top_word (hr.mono (by decide)) (by rfl) (wa_cons (wv 1) wa_nil)))
        (wss_cons (ws_if (wt_cmpR op_gt (wv 4) (wv 5) (nomark _)) (wss_one (ws_ret (we_calD K_nan_1 (hr.mono (by decide)) (by rfl) (wa_cons (wv 1) wa_nil)))) wss_nil)
        (wss_cons (ws_if (wt_cmpR op_eq (wv 4) (wv 5) (nomark _)) (wss_one (ws_ret (we_calP K_infinite_1_sign (hr.mono (by decide)) (by rfl) (wa_cons (wv 1) wa_nil) (wk_cons (wv 3) wk_nil)))) wss_nil)
        (wss_cons (ws_if (wt_cmpR op_ge (wv 4) (we_cal C_last_rank (hr.mono (by decide)) (by rfl) (wa_cons (wv 1) wa_nil)) (nomark _)) (wss_one ws_never) wss_nil)
        (wss_one (ws_ret (we_cal C_by_steps (hr.mono (by decide)) (by rfl) (wa_cons (wv 4) (wa_cons (wv 1) (wa_cons (wv 3) wa_nil)))))))))))))), ?_⟩
  (try simp only [cx_K, cx_K2])
  walk_at "nm"
  refine ⟨_, _, rfl, ⟨by omega, Int.lt_of_le_of_lt sB (Int.lt_of_lt_of_le (by decide : (4096 * 9223372036854775808 : Int) < 2 ^ 80) (ip_mono (by decide)))⟩, fun p H1 _ s1 e1 => ?_⟩
  have st1 : Stp H H1 := ⟨s1⟩
  have t1 : TupAt K H1 (.ref p) [.int (x / S.sgnW), .int (x % S.sgnW)] := ⟨p, rfl, SqT.of e1⟩
  generalize x / S.sgnW = d at *
  generalize x % S.sgnW = k at *
  unfold wordK at q
  walk_at "nm"
  refine i_ite (fun z => ?_) (fun z => ?_)
  · walk_at "nm"
    dsimp only [gV_nan_1]
    rw [if_pos (of_decide_eq_true z)] at q
    exact c_nan hs fun w H' st hn => finN q hn
  · have z1 := of_decide_eq_false z
    rw [if_neg z1] at q
    walk_at "nm"
    refine i_ite (fun z => ?_) (fun z => ?_)
    · walk_at "nm"
      dsimp only [gV_infinite_1_sign]
      rw [if_pos (of_decide_eq_true z)] at q
      exact c_inf hs fun w H' st hn => finN q hn
    · have z2 := of_decide_eq_false z
      rw [if_neg z2] at q
      walk_at "nm"
      refine ifF' (decide_eq_false (by omega)) ?_
      walk_at "nm"
      exact c_bySteps hs (by omega) (by omega) fun w H' st hn => finN q hn
theorem ok_want_number {f : Addr} {fd : FuncData} (F : Fun K "want_number" "want_number" st_want_number f fd) (T : NumC K C) (nb_isinstance : mg "isinstance" = none) (N_Number : mg "Number" = some (.ref C)) :
    FnOk P w K mg base CX0 1 f fd ["thing"] (spWantNumber K C) := by
  refine F.okW sc_want_number (spF.len fun _ => rfl) (fun cdv A outer s H vs Q E hr h => ?_)
  refine (?_ : ∃ t, Wr (PSs _ _ t) ∧ t _ _ _)
  obtain ⟨⟨v, n⟩, rfl, hv, q⟩ := h
  simp only at *
  refine ⟨_, (wss_one (ws_if (wt_not (wt_val (we_callB call_isiC (by rfl) nb_isinstance (by decide +kernel) (wa_cons (wv 0) (wa_cons (we_gref (by rfl) N_Number) wa_nil))))) (wss_one ws_never) wss_nil)), ?_⟩
  (try simp only [cx_K, cx_K2])
  walk_at "nm"
  refine ⟨_, _, _, _, rfl, hv.ty T, kit_self K C, ?_⟩
  walk_at "nm"
  refine ifF' rfl ?_
  exact q
theorem ok_side {f : Addr} {fd : FuncData} (F : Fun K "side" "side" st_side f fd) (T : NumC K C) (O_sign : CalO P w K mg base 1 C "sign" ["self"] (spNmInt K C Dw.Nm.s)) (O_kind : CalO P w K mg base 2 C "kind" ["self"] (spKind K C)) (G_INFINITE : GStr mg "INFINITE" "infinite") :
    FnOk P w K mg base CX0 3 f fd ["number"] (spNmInt K C Dw.Nm.side) := by
  refine F.okW sc_side (spF.len fun _ => rfl) (fun cdv A outer s H vs Q E hr h => ?_)
  refine (?_ : ∃ t, Wr (PSs _ _ t) ∧ t _ _ _)
  obtain ⟨⟨v, n⟩, rfl, hv, q⟩ := h
  simp only at *
  have ok := hv.1
  unfold Nm.side at q
  refine ⟨_, (wss_cons (ws_if (wt_cmpR op_ne (we_meth0 O_kind (hr.mono (by decide)) (wv 0)) (we_gstr G_INFINITE (by rfl)) (nomark _)) (wss_one (ws_ret we_int)) wss_nil)
        (wss_one (ws_ret (we_ifExp (wt_cmpR op_eq (we_meth0 O_sign (hr.mono (by decide)) (wv 0)) we_int (nomark _)) (we_un un_neg we_int) we_int)))), ?_⟩
  (try simp only [cx_K, cx_K2])
  walk_at "nm"
  rw [kindS_inf ok]
  refine i_ite (fun z => ?_) (fun z => ?_)
  · walk_at "nm"
    rw [if_neg (by simpa using z)] at q
    exact q
  · rw [if_pos (by simpa using z)] at q
    walk_at "nm"
    refine i_ite (fun z => ?_) (fun z => ?_)
    · walk_at "nm"
      rw [if_pos (of_decide_eq_true z)] at q
      exact q
    · walk_at "nm"
      rw [if_neg (of_decide_eq_false z)] at q
      exact q
theorem ok_compare {f : Addr} {fd : FuncData} (F : Fun K "compare" "compare" st_compare f fd) (C_order : Cal P w K mg base 1 "order" ["left", "right"] (spOrder)) (T : NumC K C) (O_value : CalO P w K mg base 2 C "value" ["self"] (spValue K C)) (O_kind : CalO P w K mg base 2 C "kind" ["self"] (spKind K C)) (G_INFINITE : GStr mg "INFINITE" "infinite") (C_side : Cal P w K mg base 3 "side" ["number"] (spNmInt K C Dw.Nm.side)) (G_NAN : GStr mg "NAN" "nan") (C_want_number : Cal P w K mg base 1 "want_number" ["thing"] (spWantNumber K C)) :
    FnOk P w K mg base CX0 4 f fd ["one", "other"] (spCompareN K C) := by
  refine F.okW sc_compare (spF.len fun _ => rfl) (fun cdv A outer s H vs Q E hr h => ?_)
  refine (?_ : ∃ t, Wr (PSs _ _ t) ∧ t _ _ _)
  obtain ⟨⟨v, u, n, n'⟩, rfl, hv, hu, q⟩ := h
  simp only at *
  have ok := hv.1
  have ok' := hu.1
  have := ok.st2
  have := ok'.st2
  refine ⟨_, (wss_cons (ws_expr (we_cal C_want_number (hr.mono (by decide)) (by rfl) (wa_cons (wv 0) wa_nil)))
        (wss_cons (ws_expr (we_cal C_want_number (hr.mono (by decide)) (by rfl) (wa_cons (wv 1) wa_nil)))
        (wss_cons (ws_if (ww_pt (ww_or (wt_cmpR op_eq (we_meth0 O_kind (hr.mono (by decide)) (wv 0)) (we_gstr G_NAN (by rfl)) (nomark _)) (ww_or1 (wt_cmpR op_eq (we_meth0 O_kind (hr.mono (by decide)) (wv 1)) (we_gstr G_NAN (by rfl)) (nomark _))))) (wss_one (ws_ret we_non)) wss_nil)
        (wss_cons (ws_if (ww_pt (ww_or (wt_cmpR op_eq (we_meth0 O_kind (hr.mono (by decide)) (wv 0)) (we_gstr G_INFINITE (by rfl)) (nomark _)) (ww_or1 (wt_cmpR op_eq (we_meth0 O_kind (hr.mono (by decide)) (wv 1)) (we_gstr G_INFINITE (by rfl)) (nomark _))))) (wss_one (ws_ret (we_cal C_order (hr.mono (by decide)) (by rfl) (wa_cons (we_cal C_side (hr.mono (by decide)) (by rfl) (wa_cons (wv 0) wa_nil)) (wa_cons (we_cal C_side (hr.mono (by decide)) (by rfl) (wa_cons (wv 1) wa_nil)) wa_nil))))) wss_nil)
        (wss_cons (ws_asg (we_meth0 O_value (hr.mono (by decide)) (wv 0)) (wg_tup (n := 2) (by rfl) (wgs_cons (wg_name (i := 2) sc_compare.nd rfl (Or.inl rfl)) (wgs_cons (wg_name (i := 3) sc_compare.nd rfl (Or.inl rfl)) wgs_nil))))
        (wss_cons (ws_asg (we_meth0 O_value (hr.mono (by decide)) (wv 1)) (wg_tup (n := 2) (by rfl) (wgs_cons (wg_name (i := 4) sc_compare.nd rfl (Or.inl rfl)) (wgs_cons (wg_name (i := 5) sc_compare.nd rfl (Or.inl rfl)) wgs_nil))))
        (wss_one (ws_ret (we_cal C_order (hr.mono (by decide)) (by rfl) (wa_cons (we_op op_mulB (wv 2) (wv 5)) (wa_cons (we_op op_mulB (wv 4) (wv 3)) wa_nil))))))))))), ?_⟩
  (try simp only [cx_K, cx_K2])
  walk_at "nm"
  rw [kindS_nan ok]
  unfold cmpV at q
  refine i_ite (fun z => ?_) (fun z => ?_)
  · refine ifT' rfl ?_
    walk_at "nm"
    rw [if_pos (.inl (of_decide_eq_true z))] at q
    exact fin q
  have h2 := of_decide_eq_false z
  walk_at "nm"
  rw [kindS_nan ok']
  refine i_ite (fun z => ?_) (fun z => ?_)
  · walk_at "nm"
    rw [if_pos (.inr (of_decide_eq_true z))] at q
    exact fin q
  have h2' := of_decide_eq_false z
  rw [if_neg (fun x => x.elim h2 h2')] at q
  walk_at "nm"
  rw [kindS_inf ok]
  unfold cmpN at q
  refine i_ite (fun z => ?_) (fun z => ?_)
  · refine ifT' rfl ?_
    walk_at "nm"
    rw [if_pos (.inl (of_decide_eq_true z))] at q
    exact fin q
  · have z1 := of_decide_eq_false z
    walk_at "nm"
    rw [kindS_inf ok']
    refine i_ite (fun z => ?_) (fun z => ?_)
    · walk_at "nm"
      rw [if_pos (.inr (of_decide_eq_true z))] at q
      exact fin q
    · have z2 := of_decide_eq_false z
      rw [if_neg (by omega), ← order_val ok ok'] at q
      walk_at "nm"
      refine i_mulB (mul_ok_val ok ok') ?_
      walk_at "nm"
      refine i_mulB (mul_ok_val ok' ok) ?_
      walk_at "nm"
      exact fin q
theorem ok_between {f : Addr} {fd : FuncData} (F : Fun K "between" "between" st_between f fd) (nb_max : mg "max" = none) (nb_abs : mg "abs" = none) (T : NumC K C) (O_rank : CalO P w K mg base 4 C "rank" ["self"] (spRank K C)) (O_shape : CalO P w K mg base 1 C "shape" ["self"] (spShapeM K C)) (C_want_number : Cal P w K mg base 1 "want_number" ["thing"] (spWantNumber K C)) :
    FnOk P w K mg base CX0 5 f fd ["one", "other"] (spBetween K C) := by
  refine F.okW sc_between (spF.len fun _ => rfl) (fun cdv A outer s H vs Q E hr h => ?_)
  refine (?_ : ∃ t, Wr (PSs _ _ t) ∧ t _ _ _)
  obtain ⟨⟨v, u, n, n'⟩, rfl, hv, hu, h2, h2', hS, q⟩ := h
  simp only at *
  refine ⟨_, (wss_cons (ws_expr (we_cal C_want_number (hr.mono (by decide)) (by rfl) (wa_cons (wv 0) wa_nil)))
        (wss_cons (ws_expr (we_cal C_want_number (hr.mono (by decide)) (by rfl) (wa_cons (wv 1) wa_nil)))
        (wss_cons (ws_if (wt_cmpR (op_neD hr.units) (we_meth0 O_shape (hr.mono (by decide)) (wv 0)) (we_meth0 O_shape (hr.mono (by decide)) (wv 1)) (nomark _)) (wss_one ws_never) wss_nil)
        (wss_one (ws_ret (we_callB (call_maxM rfl) (by rfl) nb_max (by decide +kernel) (wa_cons we_int (wa_cons (we_op op_sub (we_callB call_absM (by rfl) nb_abs (by decide +kernel) (wa_cons (we_op op_sub (we_meth0 O_rank (hr.mono (by decide)) (wv 0)) (we_meth0 O_rank (hr.mono (by decide)) (wv 1))) wa_nil)) we_int) wa_nil)))))))), ?_⟩
  (try simp only [cx_K, cx_K2])
  walk_at "nm"
  refine ifF' (by simp [hS]) ?_
  walk_at "nm"
  exact fin q
theorem ok_Number_eq {f : Addr} {fd : FuncData} (F : Fun K "__eq__" "Number.__eq__" st_Number_eq f fd) (T : NumC K C) (nb_isinstance : mg "isinstance" = none) (N_Number : mg "Number" = some (.ref C)) :
    FnOk P w K mg base CX0 1 f fd ["self", "other"] (spEq K C) := by
  refine F.okW sc_Number_eq (spF.len fun _ => rfl) (fun cdv A outer s H vs Q E hr h => ?_)
  refine (?_ : ∃ t, Wr (PSs _ _ t) ∧ t _ _ _)
  obtain ⟨⟨v, u, n, n'⟩, rfl, hv, hu, q⟩ := h
  simp only at *
  have ok := hv.1
  have ok' := hu.1
  have no : n ≠ n' → Q (.bl false) H := fun e => by rw [decide_eq_false e] at q; exact q
  refine ⟨_, (wss_one (ws_ret (we_and (we_callB call_isiC (by rfl) nb_isinstance (by decide +kernel) (wa_cons (wv 1) (wa_cons (we_gref (by rfl) N_Number) wa_nil))) (we_and (we_cmpR (op_eqD hr.units) (we_fld (wv 0)) (we_fld (wv 1)) (nomark _)) (we_and (we_cmpR op_eq (we_fld (wv 0)) (we_fld (wv 1)) (nomark _)) (we_and (we_cmpR op_eq (we_fld (wv 0)) (we_fld (wv 1)) (nomark _)) (we_and (we_cmpR op_eq (we_fld (wv 0)) (we_fld (wv 1)) (nomark _)) (we_one (we_cmpR op_eq (we_fld (wv 0)) (we_fld (wv 1)) (nomark _)))))))))), ?_⟩
  (try simp only [cx_K, cx_K2])
  walk_at "nm"
  refine ⟨_, _, _, _, rfl, hu.ty T, kit_self K C, ?_⟩
  walk_at "nm"
  refine ifT' rfl ?_
  walk_at "nm"
  refine i_ite (fun z1 => ?_) (fun z => no fun e => of_decide_eq_false z (by rw [e]))
  walk_at "nm"
  refine i_ite (fun z2 => ?_) (fun z => no fun e => of_decide_eq_false z (by rw [e]))
  walk_at "nm"
  refine i_ite (fun z3 => ?_) (fun z => no fun e => of_decide_eq_false z (by rw [e]))
  walk_at "nm"
  refine i_ite (fun z4 => ?_) (fun z => no fun e => of_decide_eq_false z (by rw [e]))
  walk_at "nm"
  have e : decide (n = n') = decide (n.e = n'.e) := by
    have a1 := of_decide_eq_true z1
    have a2 := (stS_inj ok.st2 ok'.st2).mp (of_decide_eq_true z2)
    have a3 := of_decide_eq_true z3
    have a4 := of_decide_eq_true z4
    obtain ⟨S, s, m, e, st⟩ := n
    obtain ⟨S', s', m', e', st'⟩ := n'
    simp only at a1 a2 a3 a4
    subst a1 a2 a3 a4
    simp
  rw [e] at q
  exact q
theorem ok_moved {f : Addr} {fd : FuncData} (F : Fun K "moved" "moved" st_moved f fd) (K_by_rank_2 : CalK P w K mg base 8 "by_rank" ["rank", "shape"] [] gV_by_rank_2 (spByRank K C)) (M_Number_1_sign : CalM P w K mg base 4 "Number" C ["self", "shape", "sign", "significand", "exponent"] ["sign"] gV_Number_init_2_sign (spInit K C)) (T : NumC K C) (O_sign : CalO P w K mg base 1 C "sign" ["self"] (spNmInt K C Dw.Nm.s)) (nb_abs : mg "abs" = none) (C_last_rank : Cal P w K mg base 2 "last_rank" ["shape"] (spShInt K Dw.Sh.last)) (O_rank : CalO P w K mg base 4 C "rank" ["self"] (spRank K C)) (O_shape : CalO P w K mg base 1 C "shape" ["self"] (spShapeM K C)) (O_kind : CalO P w K mg base 2 C "kind" ["self"] (spKind K C)) (G_NAN : GStr mg "NAN" "nan") :
    FnOk P w K mg base CX0 9 f fd ["number", "step"] (spMoved K C) := by
  refine F.okW sc_moved (spF.len fun _ => rfl) (fun cdv A outer s H vs Q E hr h => ?_)
  refine (?_ : ∃ t, Wr (PSs _ _ t) ∧ t _ _ _)
  obtain ⟨⟨v, d, n⟩, rfl, hv, hd, q⟩ := h
  simp only at *
  have ok := hv.1
  have := ok.st2
  unfold movedN at q
  refine ⟨_, (wss_cons (ws_if (wt_cmpR op_eq (we_meth0 O_kind (hr.mono (by decide)) (wv 0)) (we_gstr G_NAN (by rfl)) (nomark _)) (wss_one (ws_ret (wv 0))) wss_nil)
        (wss_cons (ws_set (i := 2) sc_moved.nd rfl (Or.inl rfl) (we_meth0 O_shape (hr.mono (by decide)) (wv 0)))
        (wss_cons (ws_set (i := 3) sc_moved.nd rfl (Or.inl rfl) (we_op op_add (we_meth0 O_rank (hr.mono (by decide)) (wv 0)) (wv 1)))
        (wss_cons (ws_if (wt_cmpR op_gt (we_callB call_absM (by rfl) nb_abs (by decide +kernel) (wa_cons (wv 3) wa_nil)) (we_cal C_last_rank (hr.mono (by decide)) (by rfl) (wa_cons (wv 2) wa_nil)) (nomark _)) (wss_one (ws_ret (wv 0))) wss_nil)
        (wss_cons (ws_if (wt_cmpR op_eq (wv 3) we_int (nomark _)) (wss_one (ws_ret (we_makeK M_Number_1_sign (hr.mono (by decide)) (by rfl) (wa_cons (wv 2) wa_nil) (wk_cons (we_meth0 O_sign (hr.mono (by decide)) (wv 0)) wk_nil)))) wss_nil)
        (wss_one (ws_ret (we_calD K_by_rank_2 (hr.mono (by decide)) (by rfl) (wa_cons (wv 3) (wa_cons (wv 2) wa_nil)))))))))), ?_⟩
  (try simp only [cx_K, cx_K2])
  walk_at "nm"
  rw [kindS_nan ok]
  refine i_ite (fun z => ?_) (fun z => ?_)
  · walk_at "nm"
    rw [if_pos (of_decide_eq_true z)] at q
    exact finN q hv
  · have z1 := of_decide_eq_false z
    rw [if_neg z1] at q
    walk_at "nm"
    refine i_ite (fun z => ?_) (fun z => ?_)
    · walk_at "nm"
      rw [if_pos (of_decide_eq_true z)] at q
      exact finN q hv
    · have z2 := of_decide_eq_false z
      rw [if_neg z2] at q
      walk_at "nm"
      refine i_ite (fun z => ?_) (fun z => ?_)
      · walk_at "nm"
        rw [if_pos (of_decide_eq_true z)] at q
        exact c_new (n := n.S.zero n.s) (bb := true) (by assumption) (ok.sh.zeroOk ok.s01) rfl (fun _ => rfl) fun w H' st hn => finN q hn
      · rw [if_neg (of_decide_eq_false z)] at q
        walk_at "nm"
        dsimp only [gV_by_rank_2]
        have b1 : -n.S.last ≤ n.rank + d ∧ n.rank + d ≤ n.S.last := by
          unfold absI at z2
          split at z2 <;> omega
        exact c_byRank (by assumption) b1.1 b1.2 fun w H' st hn => finN q hn
theorem ok_Number_up {f : Addr} {fd : FuncData} (F : Fun K "up" "Number.up" st_Number_up f fd) (C_moved : Cal P w K mg base 9 "moved" ["number", "step"] (spMoved K C)) :
    FnOk P w K mg base CX0 10 f fd ["self"] (spNmNm K C fun n => Dw.movedN n 1) := by
  refine F.okW sc_Number_up (spF.len fun _ => rfl) (fun cdv A outer s H vs Q E hr h => ?_)
  refine (?_ : ∃ t, Wr (PSs _ _ t) ∧ t _ _ _)
  obtain ⟨⟨v, n⟩, rfl, hv, q⟩ := h
  simp only at *
  refine ⟨_, (wss_one (ws_ret (we_cal C_moved (hr.mono (by decide)) (by rfl) (wa_cons (wv 0) (wa_cons we_int wa_nil))))), ?_⟩
  (try simp only [cx_K, cx_K2])
  walk_at "nm"
  exact finN q (by assumption)
theorem ok_Number_down {f : Addr} {fd : FuncData} (F : Fun K "down" "Number.down" st_Number_down f fd) (C_moved : Cal P w K mg base 9 "moved" ["number", "step"] (spMoved K C)) :
    FnOk P w K mg base CX0 10 f fd ["self"] (spNmNm K C fun n => Dw.movedN n (-1)) := by
  refine F.okW sc_Number_down (spF.len fun _ => rfl) (fun cdv A outer s H vs Q E hr h => ?_)
  refine (?_ : ∃ t, Wr (PSs _ _ t) ∧ t _ _ _)
  obtain ⟨⟨v, n⟩, rfl, hv, q⟩ := h
  simp only at *
  refine ⟨_, (wss_one (ws_ret (we_cal C_moved (hr.mono (by decide)) (by rfl) (wa_cons (wv 0) (wa_cons (we_un un_neg we_int) wa_nil))))), ?_⟩
  (try simp only [cx_K, cx_K2])
  walk_at "nm"
  exact finN q (by assumption)
theorem ok_Number_negated {f : Addr} {fd : FuncData} (F : Fun K "negated" "Number.negated" st_Number_negated f fd) (M_Number_1_sign_significand_exponent : CalM P w K mg base 4 "Number" C ["self", "shape", "sign", "significand", "exponent"] ["sign", "significand", "exponent"] gV_Number_init_2_sign_significand_exponent (spInit K C)) (T : NumC K C) (O_parts : CalO P w K mg base 1 C "parts" ["self"] (spParts K C)) (G_INFINITE : GStr mg "INFINITE" "infinite") (K_infinite_1_sign : CalK P w K mg base 6 "infinite" ["shape", "sign"] ["sign"] gV_infinite_1_sign (spInf K C)) (G_NAN : GStr mg "NAN" "nan") :
    FnOk P w K mg base CX0 7 f fd ["self"] (spNmNm K C Dw.negN) := by
  refine F.okW sc_Number_negated (spF.len fun _ => rfl) (fun cdv A outer s H vs Q E hr h => ?_)
  refine (?_ : ∃ t, Wr (PSs _ _ t) ∧ t _ _ _)
  obtain ⟨⟨v, n⟩, rfl, hv, q⟩ := h
  simp only at *
  have ok := hv.1
  have := ok.st2
  have s01 := ok.s01
  unfold negN at q
  refine ⟨_, (wss_cons (ws_if (wt_cmpR op_eq (we_fld (wv 0)) (we_gstr G_NAN (by rfl)) (nomark _)) (wss_one (ws_ret (wv 0))) wss_nil)
        (wss_cons (ws_if (wt_cmpR op_eq (we_fld (wv 0)) (we_gstr G_INFINITE (by rfl)) (nomark _)) (wss_one (ws_ret (we_calP K_infinite_1_sign (hr.mono (by decide)) (by rfl) (wa_cons (we_fld (wv 0)) wa_nil) (wk_cons (we_op op_sub we_int (we_fld (wv 0))) wk_nil)))) wss_nil)
        (wss_cons (ws_asg (we_meth0 O_parts (hr.mono (by decide)) (wv 0)) (wg_tup (n := 2) (by rfl) (wgs_cons (wg_name (i := 1) sc_Number_negated.nd rfl (Or.inl rfl)) (wgs_cons (wg_name (i := 2) sc_Number_negated.nd rfl (Or.inl rfl)) wgs_nil))))
        (wss_one (ws_ret (we_makeK M_Number_1_sign_significand_exponent (hr.mono (by decide)) (by rfl) (wa_cons (we_fld (wv 0)) wa_nil) (wk_cons (we_op op_sub we_int (we_fld (wv 0))) (wk_cons (wv 1) (wk_cons (wv 2) wk_nil))))))))), ?_⟩
  (try simp only [cx_K, cx_K2])
  walk_at "nm"
  rw [stS_nan ok.st2]
  refine i_ite (fun z => ?_) (fun z => ?_)
  · walk_at "nm"
    rw [if_pos (of_decide_eq_true z)] at q
    exact finN q hv
  · have z1 := of_decide_eq_false z
    rw [if_neg z1] at q
    walk_at "nm"
    rw [stS_inf ok.st2]
    refine i_ite (fun z => ?_) (fun z => ?_)
    · have z2 := of_decide_eq_true z
      walk_at "nm"
      dsimp only [gV_infinite_1_sign]
      refine c_inf (by assumption) fun w H' st hn => finN (H0 := H') q ?_
      have en : n.S.inf (1 - n.s) = { n with s := 1 - n.s } := by
        obtain ⟨a, b⟩ := ok.far (by omega)
        obtain ⟨S, s, m, e, k⟩ := n
        simp only at a b z2
        subst a b z2
        rfl
      rw [← en]
      exact hn
    · have z2 := of_decide_eq_false z
      have h0 : n.st = 0 := by omega
      walk_at "nm"
      have o1 : ({ n with s := 1 - n.s } : Nm).Ok := by
        have := neg_ok ok
        unfold negN at this
        rw [if_neg z1] at this
        exact this
      exact c_new (n := { n with s := 1 - n.s }) (bb := false) (by assumption) o1 h0 (fun z => nomatch z) fun w H' st hn => finN q hn
end
end K17

set_option Elab.async false
set_option linter.all false
set_option maxRecDepth 100000
set_option maxHeartbeats 4000000
namespace K17
open PySem L2
theorem ifF {c : Bool} {A B : Prop} (h : c = false) (hb : B) : if c = true then A else B := ifF' h hb
theorem ifT {c : Bool} {A B : Prop} (h : c = true) (ha : A) : if c = true then A else B := ifT' h ha
local macro_rules | `(tactic| walk_at "rd") => `(tactic| simp only [tSeq, tAsg, tRet, tDrop, tNext, tOp, tUn, tVar, tC, gName, rI, rI0, rU, tTest, tB, tIfS, tIf, tAnd, tOr, tNot, tAndV, tOrV, tNotV, tCons, tNil, tCall, tCB, tLst, tTup, tDGet, sDPut, rEq, rNe, gSub, rSetL, gTup, gCons, gNil,
  L2.start, List.map_cons, List.map_nil, List.length_cons, List.length_nil, List.cons_append, List.nil_append, List.append_nil, Nat.reduceAdd, Nat.reduceSub, List.replicate_succ, List.replicate_zero,
  List.getElem?_cons_zero, List.getElem?_cons_succ, List.set_cons_zero, List.set_cons_succ, Option.some.injEq, V.int.injEq, V.ref.injEq, V.bl.injEq, List.cons.injEq, and_true, true_and, exists_eq_left', exists_eq_left, exists_and_left, exists_and_right, and_assoc])
abbrev st_l_mixed : Stmt := top 35
theorem sc_l_mixed : FnScope ["_law_cell", "_law_k", "_law_turned"] ["_law_cell", "_law_k"] (defScope st_l_mixed) := ⟨rfl, rfl, rfl, by decide +kernel, rfl, by decide +kernel, by decide +kernel⟩
abbrev st_l_folded : Stmt := top 36
theorem sc_l_folded : FnScope ["_law_script", "_law_found", "_law_k", "_law_cell"] ["_law_script"] (defScope st_l_folded) := ⟨rfl, rfl, rfl, by decide +kernel, rfl, by decide +kernel, by decide +kernel⟩
abbrev st_l_draw : Stmt := top 37
theorem sc_l_draw : FnScope ["_law_m", "_law_top_here", "_law_k", "_law_spot", "_law_cell"] ["_law_m", "_law_top_here"] (defScope st_l_draw) := ⟨rfl, rfl, rfl, by decide +kernel, rfl, by decide +kernel, by decide +kernel⟩
abbrev st_l_begun : Stmt := top 38
theorem sc_l_begun : FnScope ["_law_script", "_law_m", "_law_cell"] ["_law_script"] (defScope st_l_begun) := ⟨rfl, rfl, rfl, by decide +kernel, rfl, by decide +kernel, by decide +kernel⟩
section
variable {P : Program} {w : World} {K : PySem.W.Frag} {mg : Str → Option Value} {base : Heap}
def spMixed : Sp := fun vs H Q _ => ∃ (c : Int) (k : Int), vs = [.int c, .int k] ∧ 0 ≤ c ∧ c < 2 ^ 63 ∧ 0 ≤ k ∧ k < 2 ^ 41 ∧ ∀ r, 0 ≤ r → r < 2147483648 → Q (.int r) H
theorem ok_mixed {f : Addr} {fd : FuncData} (F : Fun K "_law_mixed" "_law_mixed" st_l_mixed f fd) : FnOk P w K mg base CX0 1 f fd ["_law_cell", "_law_k"] spMixed := by
  refine F.okW sc_l_mixed (fun vs H Q E h => ?_) (fun cdv A outer s H vs Q E hr h => ?_)
  · obtain ⟨c, k, rfl, _⟩ := h
    rfl
  · obtain ⟨c, k, rfl, c0, c1, k0, k1, q⟩ := h
    refine ⟨_, (wss_cons (ws_set (i := 2) sc_l_mixed.nd rfl (Or.inl rfl) (we_op op_add (we_op op_add (we_op op_mod (we_op op_mul (we_op op_mul (wv 0) (we_op op_add we_int (we_op op_mul we_int (wv 1)))) we_int) we_int) (we_op op_mul (we_op op_mul we_int (wv 1)) (wv 1))) (we_op op_mul we_int (wv 1))))
        (wss_one (ws_ret (we_op op_fdiv (we_op op_mod (we_op op_mul (wv 2) we_int) we_int) we_int)))), ?_⟩
    walk_at "rd"
    refine ⟨.inl ⟨by decide, by decide⟩, .inl ⟨by omega, by omega⟩, .inr ⟨by decide, by decide⟩, by decide, .inl ⟨by decide, by decide⟩, .inr ⟨by omega, by omega⟩, .inl ⟨by decide, by decide⟩, .inr ⟨by decide, by decide⟩, by decide, ⟨by decide, by decide⟩, q _ ?_ ?_⟩
    all_goals
      generalize (c * (1 + 2 * k) * 48271 % 2147483647 + 7919 * k * k + 104729 * k) * 69621 = z
      omega
/-! ### the numbers into which a script is folded -/
def Cells (cs : List Int) : Prop := cs.length = 64 ∧ ∀ x ∈ cs, 0 ≤ x ∧ x < 2147483648
theorem Cells.set {cs : List Int} (h : Cells cs) (j : Nat) {y : Int} (h0 : 0 ≤ y) (h1 : y < 2147483648) : Cells (cs.set j y) := by
  refine ⟨by rw [List.length_set]; exact h.1, fun x hx => ?_⟩
  rcases List.mem_or_eq_of_mem_set hx with z | z
  · exact h.2 x z
  · subst z; exact ⟨h0, h1⟩
theorem set_map (cs : List Int) (j : Nat) (y : Int) : (cs.map V.int).set j (.int y) = (cs.set j y).map V.int := by rw [List.map_set]
theorem at_map {cs : List Int} {j : Nat} (h : j < cs.length) : (cs.map V.int)[j]? = some (.int cs[j]) := by
  rw [List.getElem?_map, List.getElem?_eq_getElem h]
  rfl
theorem atI_map {cs : List Int} {j : Nat} (h : j < cs.length) : atI (cs.map V.int) (j : Int) = some (.int cs[j]) := atI_nat (at_map h)
theorem ixN_of {n j : Nat} (h : j < n) : ixN n (j : Int) = some j := by
  unfold ixN
  rw [if_pos (Int.natCast_nonneg _), if_pos (by omega), Int.toNat_natCast]
def spFolded (K : PySem.W.Frag) : Sp := fun vs H Q _ => ∃ (a : Addr) (ns : List Int), vs = [.ref a] ∧ SqL K H a (ns.map V.int) ∧ ∀ (c : Addr) (cs : List Int) (H' : Hp), Same H H' → H c = none → Cells cs → H' c = some (.lst (cs.map V.int)) → Q (.ref c) H'
theorem ok_folded {f : Addr} {fd : FuncData} (F : Fun K "_law_folded" "_law_folded" st_l_folded f fd) (nb_range : mg "range" = none) (nb_enumerate : mg "enumerate" = none) : FnOk P w K mg base CX0 1 f fd ["_law_script"] (spFolded K) := by
  refine F.okW sc_l_folded (fun vs H Q E h => ?_) (fun cdv A outer s H vs Q E hr h => ?_)
  · obtain ⟨a, ns, rfl, _⟩ := h
    rfl
  · obtain ⟨a, ns, rfl, hS, q⟩ := h
    refine ⟨_, (wss_cons (ws_setLc (i := 1) (own := [("_law_k", 2)]) (g := gName 2) (by rfl) sc_l_folded.nd rfl rfl (sw_true rfl rfl rfl (by decide +kernel)) (wi_range1 (by rfl) nb_range (wa_cons we_int wa_nil)) (blkOk_by (own := [("_law_k", 2)]) (N := ["_law_script", "_law_found", "_law_k", "_law_cell"]) (sc := defScope st_l_folded) (by decide +kernel)) (fun _ _ _ _ _ => wg_name (i := 2) sc_l_folded.nd rfl (Or.inl rfl)) (fun _ _ _ _ _ => wts_nil) (fun _ _ _ _ _ => (we_op op_add we_int (wv 2))))
        (wss_cons (ws_for rfl (wi_enum (by rfl) nb_enumerate (wa_cons (wv 0) wa_nil)) (wg_tup (n := 2) (by rfl) (wgs_cons (wg_name (i := 2) sc_l_folded.nd rfl (Or.inl rfl)) (wgs_cons (wg_name (i := 3) sc_l_folded.nd rfl (Or.inl rfl)) wgs_nil))) (wss_one (ws_asg (we_op op_mod (we_op op_add (we_op op_mul (we_ix ix_list (wv 1) (we_op op_mod (wv 2) we_int) (fun _ _ => rfl)) we_int) (wv 3)) we_int) (wg_sub (wv 1) (we_op op_mod (wv 2) we_int) set_list))))
        (wss_cons (ws_for rfl (wi_range2 (by rfl) nb_range (wa_cons we_int (wa_cons we_int wa_nil))) (wg_name (i := 2) sc_l_folded.nd rfl (Or.inl rfl)) (wss_one (ws_asg (we_op op_mod (we_op op_add (we_ix ix_list (wv 1) (wv 2) (fun _ _ => rfl)) (we_op op_mul (we_ix ix_list (wv 1) (we_op op_sub (wv 2) we_int) (fun _ _ => rfl)) we_int)) we_int) (wg_sub (wv 1) (wv 2) set_list))))
        (wss_one (ws_ret (wv 1)))))), ?_⟩
    -- found = [17 + k for k in range(64)]
    refine ⟨64, rfl, by decide, by decide, fun D hD => lc_range (lo := 0) (n := 64) (fun i H2 => ∃ cs : List Int, H2 = upd H D (.lst (cs.map V.int)) ∧ cs.length = i ∧ ∀ x ∈ cs, 0 ≤ x ∧ x < 2147483648) ⟨[], rfl, rfl, fun _ z => nomatch z⟩ ?_ ?_⟩
    · rintro i H2 hi ⟨cs, rfl, hl, hb⟩
      refine ⟨rfl, ?_⟩
      refine ⟨_, rfl, _, _, rfl, rfl, _, upd_same, ?_, cs ++ [17 + (0 + (i : Int))], ?_, ?_, ?_⟩
      · rw [List.length_map, hl, sizeLine_eq]; omega
      · rw [upd_upd, List.map_append]; rfl
      · rw [List.length_append, hl]; rfl
      · intro x hx
        rcases List.mem_append.mp hx with z | z
        · exact hb x z
        · have : x = 17 + (0 + (i : Int)) := by simpa using z
          omega
    rintro H2 ⟨cs0, rfl, hl0, hb0⟩
    have s0 : Same H (upd H D (.lst (cs0.map V.int))) := fun c o e => by rw [upd_ne (ne_of_none e hD)]; exact e
    -- for k, cell in enumerate(script)
    refine ⟨_, rfl, a, _, rfl, s0.seq hS, for_enum (K := K) (a := a) (xs := ns.map V.int) (fun i σ H2 => ∃ (cs : List Int) (v1 v2 : Option V), σ = [some (.ref a), some (.ref D), v1, v2] ∧ Same H H2 ∧ H2 D = some (.lst (cs.map V.int)) ∧ Cells cs)
      ⟨cs0, none, none, rfl, s0, upd_same, hl0, hb0⟩ (fun i σ H2 _ ⟨_, _, _, _, s2, _⟩ => s2.seq hS) ?_ ?_⟩
    · rintro i x σ H2 T hx ⟨cs, v1, v2, rfl, s2, hD2, hC⟩ hT
      have hin : i < ns.length := by
        have := (List.getElem?_eq_some_iff.mp hx).1
        rwa [List.length_map] at this
      obtain rfl : x = .int ns[i] := by
        rw [at_map hin] at hx
        exact (Option.some.inj hx).symm
      have hj : i % 64 < cs.length := by rw [hC.1]; omega
      have ek : ((i : Nat) : Int) % 64 = ((i % 64 : Nat) : Int) := by omega
      have hD3 : (upd H2 T (.tup [.int (i : Nat), .int ns[i]])) D = some (.lst (cs.map V.int)) := by rw [upd_ne (ne_of_none hD2 hT)]; exact hD2
      refine ⟨T, _, rfl, SqT.of upd_same, rfl, _, _, rfl, _, _, rfl, rfl, ?_⟩
      refine ⟨_, rfl, _, rfl, _, _, rfl, rfl, (show (0 : Int) < 64 by decide), D, _, _, .int cs[i % 64], rfl, rfl, SqL.of hD3, ?_, _, _, rfl, rfl, .inr ⟨by decide, by decide⟩, _, rfl, _, _, rfl, rfl, _, _, rfl, rfl, (show (0 : Int) < 2147483647 by decide), ?_⟩
      · rw [ek]; exact atI_map hj
      refine ⟨_, rfl, _, rfl, _, _, rfl, rfl, (show (0 : Int) < 64 by decide), D, _, _, i % 64, rfl, rfl, hD3, ?_, ?_⟩
      · rw [ek, List.length_map]; exact ixN_of hj
      refine ⟨cs.set (i % 64) ((cs[i % 64] * 48271 + ns[i]) % 2147483647), _, _, rfl, ?_, ?_, hC.set _ (by omega) (by omega)⟩
      · intro c o e
        have hc : c ≠ D := ne_of_none e hD
        rw [upd_ne hc, upd_ne (ne_of_none (s2 c o e) hT)]
        exact s2 c o e
      · rw [upd_same, ← set_map]
    rintro σ H2 ⟨cs1, v1, v2, rfl, s2, hD2, hC1⟩
    -- for k in range(1, 64)
    refine ⟨1, 64, rfl, ⟨by decide, by decide, by decide, by decide⟩, for_range (lo := 1) (n := (64 - 1 : Int).toNat) (fun i σ H2 => ∃ (cs : List Int) (v1 v2 : Option V), σ = [some (.ref a), some (.ref D), v1, v2] ∧ Same H H2 ∧ H2 D = some (.lst (cs.map V.int)) ∧ Cells cs)
      ⟨cs1, _, _, rfl, s2, hD2, hC1⟩ ?_ ?_⟩
    · rintro i σ H3 hi ⟨cs, v1, v2, rfl, s3, hD3, hC⟩
      have hi' : i < 63 := hi
      have hl := hC.1
      have ek : (1 : Int) + (i : Nat) = ((1 + i : Nat) : Int) := by omega
      have ek1 : (1 : Int) + (i : Nat) - 1 = ((i : Nat) : Int) := by omega
      have h1 : 1 + i < cs.length := by omega
      have h2 : i < cs.length := by omega
      have b1 := hC.2 cs[1 + i] (List.getElem_mem h1)
      have b2 := hC.2 cs[i] (List.getElem_mem h2)
      refine ⟨_, rfl, _, rfl, D, _, _, .int cs[1 + i], rfl, rfl, SqL.of hD3, ?_, _, rfl, _, rfl, _, _, rfl, rfl, D, _, _, .int cs[i], rfl, rfl, SqL.of hD3, ?_, _, _, rfl, rfl, .inr ⟨by decide, by decide⟩, _, _, rfl, rfl, _, _, rfl, rfl, (show (0 : Int) < 2147483647 by decide), ?_⟩
      · rw [ek]; exact atI_map h1
      · rw [ek1]; exact atI_map h2
      refine ⟨_, rfl, _, rfl, D, _, _, 1 + i, rfl, rfl, hD3, ?_, ?_⟩
      · rw [ek, List.length_map]; exact ixN_of h1
      refine ⟨cs.set (1 + i) ((cs[1 + i] + cs[i] * 16807) % 2147483647), _, _, rfl, ?_, ?_, hC.set _ (by omega) (by omega)⟩
      · intro c o e
        rw [upd_ne (ne_of_none e hD)]
        exact s3 c o e
      · rw [upd_same, ← set_map]
    · rintro σ H3 ⟨cs, v1, v2, rfl, s3, hD3, hC⟩
      exact ⟨_, rfl, q D cs H3 s3 hD hC hD3⟩
/-! ### data of ints -/
theorem lay_ints : ∀ ns : List Int, PyData.canLayAll0 (ns.map PyData.int) = true
  | [] => by simp [PyData.canLayAll0]
  | n :: ns => by simp [PyData.canLayAll0, PyData.canLay0, lay_ints ns]
theorem dep_ints : ∀ ns : List Int, PyData.depthAll (ns.map PyData.int) = 0
  | [] => by simp [PyData.depthAll]
  | n :: ns => by simp [PyData.depthAll, PyData.depth, dep_ints ns]
theorem shaped_ints (ns : List Int) : SeqAt.shaped (.list (ns.map PyData.int)) = true := by
  unfold SeqAt.shaped
  simp [PyData.canLay0, PyData.depth, lay_ints, dep_ints]
theorem dp_ints {K : PySem.W.Frag} {H : Hp} : ∀ ns : List Int, DpAll K H (ns.map V.int) (ns.map PyData.int)
  | [] => .nil
  | n :: ns => .cons (.int n) (dp_ints ns)
theorem eqv_nil : ∀ ns : List Int, PyData.eqv (.list (ns.map PyData.int)) (.list []) = ns.isEmpty
  | [] => by simp [PyData.eqv, PyData.eqvAll]
  | n :: ns => by simp [PyData.eqv, PyData.eqvAll]
/-! ### what all is drawn by -/
def mkv (c l : Addr) (k : Int) : List (Key × V) := [(.inr "cells", .ref c), (.inr "left", .ref l), (.inr "spot", .int k)]
theorem m1 : ¬ (("cells" : Str) = ("spot" : Str)) := by decide +kernel
theorem n1 : ¬ ((Sum.inr "cells" : Key) = (Sum.inr "spot" : Key)) := fun z => m1 (Sum.inr.inj z)
theorem m2 : ¬ (("left" : Str) = ("spot" : Str)) := by decide +kernel
theorem n2 : ¬ ((Sum.inr "left" : Key) = (Sum.inr "spot" : Key)) := fun z => m2 (Sum.inr.inj z)
theorem m3 : ¬ (("cells" : Str) = ("left" : Str)) := by decide +kernel
theorem n3 : ¬ ((Sum.inr "cells" : Key) = (Sum.inr "left" : Key)) := fun z => m3 (Sum.inr.inj z)
theorem m4 : ¬ (("spot" : Str) = ("left" : Str)) := by decide +kernel
theorem n4 : ¬ ((Sum.inr "spot" : Key) = (Sum.inr "left" : Key)) := fun z => m4 (Sum.inr.inj z)
theorem val_spot (c l : Addr) (k : Int) : valV (mkv c l k) (Sum.inr "spot") = some (.int k) := by
  unfold mkv
  rw [valV_neg n1, valV_neg n2, valV_pos rfl]
theorem val_left (c l : Addr) (k : Int) : valV (mkv c l k) (Sum.inr "left") = some (.ref l) := by
  unfold mkv
  rw [valV_neg n3, valV_pos rfl]
theorem val_cells (c l : Addr) (k : Int) : valV (mkv c l k) (Sum.inr "cells") = some (.ref c) := by
  unfold mkv
  rw [valV_pos rfl]
theorem put_spot (c l : Addr) (k y : Int) : putK (mkv c l k) (Sum.inr "spot") (.int y) = mkv c l y := by
  unfold putK
  rw [valV_any, val_spot]
  simp [mkv, m1, m2]
theorem put_left (c l l' : Addr) (k : Int) : putK (mkv c l k) (Sum.inr "left") (.ref l') = mkv c l' k := by
  unfold putK
  rw [valV_any, val_left]
  simp [mkv, m3, m4]
theorem get_spot {H : Hp} {m c l : Addr} {k : Int} (h : H m = some (.dK (mkv c l k))) : DGet H m (.str "spot") (some (.int k)) := by
  have z := DGet.k (k := Sum.inr "spot") h
  rw [val_spot] at z
  exact z
theorem get_left {H : Hp} {m c l : Addr} {k : Int} (h : H m = some (.dK (mkv c l k))) : DGet H m (.str "left") (some (.ref l)) := by
  have z := DGet.k (k := Sum.inr "left") h
  rw [val_left] at z
  exact z
theorem get_cells {H : Hp} {m c l : Addr} {k : Int} (h : H m = some (.dK (mkv c l k))) : DGet H m (.str "cells") (some (.ref c)) := by
  have z := DGet.k (k := Sum.inr "cells") h
  rw [val_cells] at z
  exact z
theorem set_spot {H : Hp} {m c l : Addr} {k y : Int} (h : H m = some (.dK (mkv c l k))) : DPut H m (.str "spot") (.int y) (upd H m (.dK (mkv c l y))) := by
  have z := DPut.k (k := Sum.inr "spot") (v := .int y) h (by rw [sizeLine_eq]; show 3 < 16777216; decide)
  rw [put_spot] at z
  exact z
theorem set_left {H : Hp} {m c l l' : Addr} {k : Int} (h : H m = some (.dK (mkv c l k))) : DPut H m (.str "left") (.ref l') (upd H m (.dK (mkv c l' k))) := by
  have z := DPut.k (k := Sum.inr "left") (v := .ref l') h (by rw [sizeLine_eq]; show 3 < 16777216; decide)
  rw [put_left] at z
  exact z
structure MOk (H : Hp) (m c l : Addr) (n : Nat) : Prop where
  ex : ∃ (k : Nat) (cs ls : List Int), k ≤ n ∧ H m = some (.dK (mkv c l k)) ∧ H c = some (.lst (cs.map V.int)) ∧ Cells cs ∧ H l = some (.lst (ls.map V.int)) ∧ ls.length ≤ 63
  ne : c ≠ l
/-- all but m and l is kept -/
def Keep (m l : Addr) (H H' : Hp) : Prop := ∀ b o, H b = some o → b ≠ m → b ≠ l → H' b = some o
theorem Keep.refl (m l : Addr) (H : Hp) : Keep m l H H := fun _ _ e _ _ => e
theorem Keep.trans {m l : Addr} {H H1 H2 : Hp} (a : Keep m l H H1) (b : Keep m l H1 H2) : Keep m l H H2 := fun c o e h1 h2 => b c o (a c o e h1 h2) h1 h2
theorem Same.keep {m l : Addr} {H H1 : Hp} (a : Same H H1) : Keep m l H H1 := fun c o e _ _ => a c o e
theorem MOk.mono {H : Hp} {m c l : Addr} {n n' : Nat} (h : MOk H m c l n) (hn : n ≤ n') : MOk H m c l n' := by
  obtain ⟨⟨k, cs, ls, h1, h2⟩, ne⟩ := h
  exact ⟨⟨k, cs, ls, Nat.le_trans h1 hn, h2⟩, ne⟩
theorem MOk.same {H H' : Hp} {m c l : Addr} {n : Nat} (h : MOk H m c l n) (s : Same H H') : MOk H' m c l n := by
  obtain ⟨⟨k, cs, ls, h1, h2, h3, h4, h5, h6⟩, ne⟩ := h
  exact ⟨⟨k, cs, ls, h1, s _ _ h2, s _ _ h3, h4, s _ _ h5, h6⟩, ne⟩
def spDraw : Sp := fun vs H Q _ => ∃ (m c l : Addr) (n : Nat) (t : Int), vs = [.ref m, .int t] ∧ MOk H m c l n ∧ n < 2 ^ 30 ∧ 0 < t ∧ t < 1073741824 ∧
  ∀ (r : Int) (H' : Hp), 0 ≤ r → r < t → MOk H' m c l (n + 1) → Keep m l H H' → Q (.int r) H'
theorem ok_draw {f : Addr} {fd : FuncData} (F : Fun K "_law_draw" "_law_draw" st_l_draw f fd) (nb_len : mg "len" = none) (C__law_mixed : Cal P w K mg base 1 "_law_mixed" ["_law_cell", "_law_k"] spMixed) : FnOk P w K mg base CX0 2 f fd ["_law_m", "_law_top_here"] spDraw := by
  refine F.okW sc_l_draw (fun vs H Q E h => ?_) (fun cdv A outer s H vs Q E hr h => ?_)
  · obtain ⟨m, c, l, n, t, rfl, _⟩ := h
    rfl
  · obtain ⟨m, c, l, n, t, rfl, ⟨⟨k, cs, ls, hk, hm, hc, hC, hl, hls⟩, ncl⟩, hn, t0, t1, q⟩ := h
    have nmc : m ≠ c := ne_of hm hc (by intro z; cases z)
    have nml : m ≠ l := ne_of hm hl (by intro z; cases z)
    refine ⟨_, (wss_cons (ws_set (i := 2) sc_l_draw.nd rfl (Or.inl rfl) (we_dget (hu_of hr) (wv 0) we_str (fun _ _ => rfl)))
        (wss_cons (ws_dput (hu_of hr) (wv 0) we_str (we_op op_add (wv 2) we_int) rfl)
        (wss_cons (ws_if (wt_cmpR (op_neD hr.units) (we_dget (hu_of hr) (wv 0) we_str (fun _ _ => rfl)) (we_lstA wa_nil) (nomark _)) (wss_cons (ws_set (i := 3) sc_l_draw.nd rfl (Or.inl rfl) (we_op op_mod (wv 2) (we_callB call_len_seq (by rfl) nb_len (by decide +kernel) (wa_cons (we_dget (hu_of hr) (wv 0) we_str (fun _ _ => rfl)) wa_nil))))
        (wss_cons (ws_set (i := 4) sc_l_draw.nd rfl (Or.inl rfl) (we_ix ix_list (we_dget (hu_of hr) (wv 0) we_str (fun _ _ => rfl)) (wv 3) (fun _ _ => rfl)))
        (wss_one (ws_if (wt_cmpR op_gt (wv 4) we_int (nomark _)) (wss_cons (ws_asg (we_op op_fdiv (wv 4) (wv 1)) (wg_sub (we_dget (hu_of hr) (wv 0) we_str (fun _ _ => rfl)) (wv 3) set_list))
        (wss_one (ws_ret (we_op op_mod (wv 4) (wv 1))))) wss_nil)))) wss_nil)
        (wss_one (ws_ret (we_op op_mod (we_cal C__law_mixed (hr.mono (by decide)) (by rfl) (wa_cons (we_cal C__law_mixed (hr.mono (by decide)) (by rfl) (wa_cons (we_op op_add (we_ix ix_list (we_dget (hu_of hr) (wv 0) we_str (fun _ _ => rfl)) (we_op op_mod (wv 2) we_int) (fun _ _ => rfl)) (we_op op_mul we_int (we_op op_fdiv (wv 2) we_int))) (wa_cons (wv 2) wa_nil))) (wa_cons (we_op op_add (wv 2) we_int) wa_nil))) (wv 1))))))), ?_⟩
    -- k = m['spot']; m['spot'] = k + 1
    refine ⟨_, rfl, m, _, rfl, get_spot hm, _, rfl, _, _, rfl, rfl, _, rfl, m, _, rfl, set_spot hm, ?_⟩
    have hm1 : (upd H m (.dK (mkv c l ((k : Int) + 1)))) m = some (.dK (mkv c l ((k : Int) + 1))) := upd_same
    have hc1 : (upd H m (.dK (mkv c l ((k : Int) + 1)))) c = some (.lst (cs.map V.int)) := by rw [upd_ne nmc.symm]; exact hc
    have hl1 : (upd H m (.dK (mkv c l ((k : Int) + 1)))) l = some (.lst (ls.map V.int)) := by rw [upd_ne nml.symm]; exact hl
    have kp1 : Keep m l H (upd H m (.dK (mkv c l ((k : Int) + 1)))) := fun b o e h1 _ => by rw [upd_ne h1]; exact e
    have sz1 : ∀ b, (upd H m (.dK (mkv c l ((k : Int) + 1)))) b = none → H b = none := fun b e => by
      by_cases hb : b = m
      · subst hb; rw [upd_same] at e; cases e
      · rwa [upd_ne hb] at e
    generalize upd H m (.dK (mkv c l ((k : Int) + 1))) = H1 at *
    -- if m['left'] != []
    refine ⟨_, rfl, m, _, rfl, get_left hm1, by decide, fun p H2 hp s2 e2 => ⟨.list (ls.map PyData.int), .list [], ?_, ?_, shaped_ints ls, shaped_ints [], _, rfl, ?_⟩⟩
    · exact .lst (SqL.of (s2 _ _ hl1)) (dp_ints ls)
    · exact .lst (SqL.of e2) .nil
    have hm2 := s2 _ _ hm1
    have hc2 := s2 _ _ hc1
    have hl2 := s2 _ _ hl1
    have kp2 : Keep m l H H2 := kp1.trans (Same.keep s2)
    have M2 : MOk H2 m c l (n + 1) := ⟨⟨k + 1, cs, ls, by omega, hm2, hc2, hC, hl2, hls⟩, ncl⟩
    rw [eqv_nil]
    -- the last row
    have last : ∀ v1 v2 : Option V, (tRet (tOp (rI (fun _ j => 0 < j) fun i j => V.int (i % j)) (tCall spMixed [] E0 (tCons (tCall spMixed [] E0 (tCons (tOp (rI0 fun i j => V.int (i + j)) (tOp (rIxL K) (tDGet (tVar 0) (tC (.str "cells"))) (tOp (rI (fun _ j => 0 < j) fun i j => V.int (i % j)) (tVar 2) (tC (.int 64))))
        (tOp (rI CMul fun i j => V.int (i * j)) (tC (.int 31)) (tOp (rI CDiv fun i j => V.int (i / j)) (tVar 2) (tC (.int 64))))) (tCons (tVar 2) tNil))) (tCons (tOp (rI0 fun i j => V.int (i + j)) (tVar 2) (tC (.int 7))) tNil))) (tVar 1)))
        { nx := fun _ H' => Q .non H', rt := Q } [some (.ref m), some (.int t), some (.int k), v1, v2] H2 := by
      intro v1 v2
      have hj : k % 64 < cs.length := by rw [hC.1]; omega
      have ek : ((k : Nat) : Int) % 64 = ((k % 64 : Nat) : Int) := by omega
      have b1 := hC.2 cs[k % 64] (List.getElem_mem hj)
      refine ⟨_, rfl, m, _, rfl, get_cells hm2, _, rfl, _, _, rfl, rfl, (show (0 : Int) < 64 by decide), c, _, _, .int cs[k % 64], rfl, rfl, SqL.of hc2, ?_, _, rfl, _, _, rfl, rfl, ⟨by decide, by decide⟩, _, _, rfl, rfl, .inl ⟨by decide, by decide⟩, _, _, rfl, rfl, _, rfl, _, _, rfl, ?_, ?_, ?_, ?_, fun r r0 r1 => ?_⟩
      · rw [ek]; exact atI_map hj
      · omega
      · omega
      · omega
      · omega
      refine ⟨_, rfl, _, _, rfl, rfl, r, (k : Int) + 7, rfl, r0, by omega, by omega, by omega, fun r' r0' r1' => ⟨_, rfl, _, _, rfl, rfl, t0, ?_⟩⟩
      exact q _ H2 (Int.emod_nonneg _ (by omega)) (Int.emod_lt_of_pos _ t0) M2 kp2
    cases hls0 : ls.isEmpty with
    | true => exact ifF rfl (last none none)
    | false =>
      refine ifT rfl ?_
      have hpos : 0 < ls.length := by
        cases ls with
        | nil => cases hls0
        | cons _ _ => exact Nat.succ_pos _
      have hj : k % ls.length < ls.length := Nat.mod_lt _ hpos
      have ek : ((k : Nat) : Int) % (((ls.map V.int).length : Nat) : Int) = ((k % ls.length : Nat) : Int) := by rw [List.length_map, Int.natCast_emod]
      -- spot = k % len(m['left']); cell = m['left'][spot]
      refine ⟨_, rfl, _, rfl, m, _, rfl, get_left hm2, l, _, rfl, .inl (SqL.of hl2), _, _, rfl, rfl, ?_, ?_⟩
      · show (0 : Int) < (((ls.map V.int).length : Nat) : Int)
        rw [List.length_map]; omega
      refine ⟨_, rfl, m, _, rfl, get_left hm2, _, rfl, l, _, _, .int ls[k % ls.length], rfl, rfl, SqL.of hl2, ?_, ?_⟩
      · rw [ek]; exact atI_map hj
      -- if cell > 0
      refine ⟨_, rfl, _, _, rfl, rfl, _, rfl, ?_⟩
      by_cases hz : 0 < ls[k % ls.length]
      · refine ifT (decide_eq_true hz) ?_
        refine ⟨_, rfl, _, rfl, _, _, rfl, rfl, ⟨t0, t1⟩, _, rfl, m, _, rfl, get_left hm2, _, rfl, l, _, _, k % ls.length, rfl, rfl, hl2, ?_, ?_⟩
        · rw [ek, List.length_map]; exact ixN_of hj
        refine ⟨_, rfl, _, rfl, _, _, rfl, rfl, t0, ?_⟩
        refine q _ _ (Int.emod_nonneg _ (by omega)) (Int.emod_lt_of_pos _ t0) ⟨⟨k + 1, cs, ls.set (k % ls.length) (ls[k % ls.length] / t), by omega, ?_, ?_, hC, ?_, ?_⟩, ncl⟩ ?_
        · rw [upd_ne nml]; exact hm2
        · rw [upd_ne ncl]; exact hc2
        · rw [upd_same, ← set_map]
        · rw [List.length_set]; exact hls
        · exact fun b o e h1 h2 => by rw [upd_ne h2]; exact kp2 b o e h1 h2
      · exact ifF (decide_eq_false hz) (last _ _)
theorem merge3 (x y z : V) : mergeK [] [(.inr "cells", x), (.inr "left", y), (.inr "spot", z)] = ([(.inr "cells", x), (.inr "left", y), (.inr "spot", z)] : List (Key × V)) := by
  simp [mergeK, putK, m1, m2, m3]
def spBegun (K : PySem.W.Frag) : Sp := fun vs H Q _ => ∃ (a : Addr) (ns : List Int), vs = [.ref a] ∧ SqL K H a (ns.map V.int) ∧ ns.length ≤ 63 ∧ ∀ (m c l : Addr) (H' : Hp), Same H H' → H m = none → H l = none → MOk H' m c l 0 → Q (.ref m) H'
theorem ok_begun {f : Addr} {fd : FuncData} (F : Fun K "_law_begun" "_law_begun" st_l_begun f fd) (C__law_folded : Cal P w K mg base 1 "_law_folded" ["_law_script"] (spFolded K)) : FnOk P w K mg base CX0 2 f fd ["_law_script"] (spBegun K) := by
  refine F.okW sc_l_begun (fun vs H Q E h => ?_) (fun cdv A outer s H vs Q E hr h => ?_)
  · obtain ⟨a, ns, rfl, _⟩ := h
    rfl
  · obtain ⟨a, ns, rfl, hS, hn, q⟩ := h
    refine ⟨_, (wss_cons (ws_set (i := 1) sc_l_begun.nd rfl (Or.inl rfl) (we_dispA (wps_cons we_str (we_cal C__law_folded (hr.mono (by decide)) (by rfl) (wa_cons (wv 0) wa_nil)) (wps_cons we_str (we_lstA wa_nil) (wps_cons we_str we_int wps_nil))) (by rfl) (by rfl) (fun z => by cases z) (by decide)))
        (wss_cons (ws_dput (hu_of hr) (wv 1) we_str (we_lc (own := [("_law_cell", 2)]) (g := gName 2) (by rfl) sc_l_begun.nd (wi_list (wv 0)) (blkOk_by (own := [("_law_cell", 2)]) (N := ["_law_script", "_law_m", "_law_cell"]) (sc := defScope st_l_begun) (by decide +kernel)) (fun _ _ _ _ _ => wg_name (i := 2) sc_l_begun.nd rfl (Or.inl rfl)) (fun _ _ _ _ _ => wts_nil) (fun _ _ _ _ _ => (we_ifExp (wt_cmpR op_ge (wv 2) (we_op op_pow we_int we_int) (nomark _)) (wv 2) we_int))) rfl)
        (wss_one (ws_ret (wv 1))))), ?_⟩
    intro m H0 hm s0 e0
    refine ⟨_, rfl, a, ns, rfl, s0.seq hS, fun c cs H1 s1 nc hC hc => ⟨by decide, fun l0 Hl hl0 sl el => ⟨sl _ _ (s1 _ _ e0), [(.inr "cells", .ref c), (.inr "left", .ref l0), (.inr "spot", .int 0)], rfl, (by decide : 3 ≤ 15), ?_⟩⟩⟩
    intro H2 kp fr hm2
    rw [merge3] at hm2
    have nmc : m ≠ c := ne_of_none e0 nc
    have s2 : Same H H2 := fun b o e => kp _ _ (sl _ _ (s1 _ _ (s0 _ _ e))) (ne_of_none e hm)
    have hc2 : H2 c = some (.lst (cs.map V.int)) := kp _ _ (sl _ _ hc) nmc.symm
    -- m['left'] = [cell if cell >= 10 ** 18 else 0 for cell in script]
    refine ⟨_, rfl, a, rfl, ⟨_, s2.seq hS⟩, fun D hD => lc_list (K := K) (a := a) (xs := ns.map V.int) (fun i H3 => ∃ ls : List Int, H3 = upd H2 D (.lst (ls.map V.int)) ∧ ls.length = i) ⟨[], rfl, rfl⟩ ?_ ?_ ?_⟩
    · rintro i H3 _ ⟨ls, rfl, _⟩
      exact Same.seq (fun b o e => by rw [upd_ne (ne_of_none e hD)]; exact e) (s2.seq hS)
    · rintro i x H3 hx ⟨ls, rfl, hl⟩
      have hin : i < ns.length := by
        have := (List.getElem?_eq_some_iff.mp hx).1
        rwa [List.length_map] at this
      obtain rfl : x = .int ns[i] := by
        rw [at_map hin] at hx
        exact (Option.some.inj hx).symm
      refine ⟨rfl, ?_⟩
      refine ⟨_, rfl, _, _, rfl, rfl, ⟨by decide, by decide, by decide⟩, _, _, rfl, rfl, _, rfl, ?_⟩
      have fin : ∀ y : Int, ∃ acc, (upd H2 D (.lst (ls.map V.int))) D = some (.lst acc) ∧ acc.length < sizeLine ∧ ∃ ls' : List Int, upd (upd H2 D (.lst (ls.map V.int))) D (.lst (acc ++ [.int y])) = upd H2 D (.lst (ls'.map V.int)) ∧ ls'.length = i + 1 := fun y => by
        refine ⟨_, upd_same, ?_, ls ++ [y], ?_, ?_⟩
        · rw [List.length_map, hl, sizeLine_eq]; omega
        · rw [upd_upd, List.map_append]; rfl
        · rw [List.length_append, hl]; rfl
      exact ite2 (fun _ => ⟨_, rfl, fin _⟩) (fun _ => fin 0)
    rintro H3 ⟨ls, rfl, hl⟩
    have nmD : m ≠ D := ne_of_none hm2 hD
    have ncD : c ≠ D := ne_of_none hc2 hD
    have hm3 : (upd H2 D (.lst (ls.map V.int))) m = some (.dK (mkv c l0 0)) := by rw [upd_ne nmD]; exact hm2
    refine ⟨_, rfl, m, _, rfl, set_left hm3, _, rfl, ?_⟩
    refine q m c D _ ?_ hm (s2.free hD) ⟨⟨0, cs, ls, Nat.le_refl _, upd_same, ?_, hC, ?_, ?_⟩, ncD⟩
    · intro b o e
      rw [upd_ne (ne_of_none e hm), upd_ne (ne_of_none (s2 _ _ e) hD)]
      exact s2 _ _ e
    · rw [upd_ne nmc.symm, upd_ne ncD]; exact hc2
    · rw [upd_ne nmD.symm, upd_same]
    · rw [hl, List.length_map]; exact hn
end
end K17

set_option Elab.async false
set_option linter.all false
set_option maxRecDepth 100000
set_option maxHeartbeats 4000000
namespace K17
open PySem PySem.Spec PyProof.Rows L2 Dw
class Kpt (m l : Addr) (H : outParam Hp) (H' : Hp) : Prop where
  k : Keep m l H H'
class Kc (m l : Addr) (H H' : Hp) : Prop where
  k : Keep m l H H'
instance Kc.refl (m l : Addr) (H : Hp) : Kc m l H H := ⟨Keep.refl m l H⟩
instance Kc.kpt {m l : Addr} {H H1 H2 : Hp} [a : Kpt m l H1 H2] [b : Kc m l H H1] : Kc m l H H2 := ⟨b.k.trans a.k⟩
instance Kc.stp {m l : Addr} {H H1 H2 : Hp} [a : Stp H1 H2] [b : Kc m l H H1] : Kc m l H H2 := ⟨b.k.trans (Same.keep a.s)⟩
theorem MOk.drw {H H' : Hp} {m c l : Addr} {n : Nat} (M : MOk H m c l n) (k : Keep m l H H') : Drw H H' := by
  obtain ⟨⟨_, cs, ls, _, hm, _, _, hl, _⟩, _⟩ := M
  refine ⟨fun b o i e => k b o e ?_ ?_⟩
  · rintro rfl; rw [hm] at e; cases e; exact i
  · rintro rfl; rw [hl] at e; cases e; exact i
section
variable {K : PySem.W.Frag} {C : Addr} {H H0 H1 H' : Hp} {Q : VK} {E : XK} {m c l : Addr} {n : Nat} {v w : V}
theorem c_draw {t : Int} (M : MOk H0 m c l n) (k : ∀ r H', Kpt m l H H' → Drw H H' → 0 ≤ r → r < t → MOk H' m c l (n + 1) → Q (.int r) H') (hn : n < 2 ^ 30 := by omega) (t0 : 0 < t := by omega) (t1 : t < 1073741824 := by omega) (e : Sm H0 H := by infer_instance) : spDraw [.ref m, .int t] H Q E :=
  ⟨m, c, l, n, t, rfl, M.same e.s, hn, t0, t1, fun r H' r0 r1 M' k' => k r H' ⟨k'⟩ ((M.same e.s).drw k') r0 r1 M'⟩
theorem i_three {v w z : V} {R : V → V → V → Prop} (h : R v w z) : ∃ v' w' z', [v, w, z] = [v', w', z'] ∧ R v' w' z' := ⟨v, w, z, rfl, h⟩
theorem i_par3 {i j k : Nat} {ta : TA} {σ : L2.St} {D : Ends} (h : ta σ H fun vs H1 => ∃ v w z, vs = [v, w, z] ∧ D.nx (((σ.set i (some v)).set j (some w)).set k (some z)) H1) : tPar3 i j k ta D σ H := h
theorem g_three {i j k : Nat} {x y z : V} {σ : L2.St} {R : L2.St → Hp → Prop} (h : TupAt K H0 v [x, y, z]) (q : R (((σ.set i (some x)).set j (some y)).set k (some z)) H) (e : Ex H0 H := by infer_instance) : gTup K 3 (gCons (gName i) (gCons (gName j) (gCons (gName k) gNil))) v σ H R := by
  obtain ⟨p, rfl, hs⟩ := h.ex e
  exact ⟨p, _, rfl, hs, rfl, _, _, rfl, _, _, rfl, _, _, rfl, rfl, q⟩
theorem mokS {n' : Nat} (M : MOk H0 m c l n) (hn : n ≤ n' := by omega) (e : Sm H0 H' := by infer_instance) : MOk H' m c l n' := (M.same e.s).mono hn
theorem kpS (k : Keep m l H H0) (e : Kc m l H0 H' := by infer_instance) : Keep m l H H' := k.trans e.k
theorem kpR (e : Kc m l H H' := by infer_instance) : Keep m l H H' := e.k
theorem finK (q : ∀ H', Keep m l H H' → Q v H') (e : Kc m l H H' := by infer_instance) : Q v H' := q H' e.k
theorem pick_kept {p : Addr} {xs : List V} (hp : H0 p = none) (M : MOk H0 m c l n) (e : H1 p = some (.lst xs)) (k : Kc m l H1 H := by infer_instance) : H p = some (.lst xs) := by
  obtain ⟨⟨_, cs, ls, _, hm, _, _, hl, _⟩, _⟩ := M
  exact k.k _ _ e (ne_of_none hm hp).symm (ne_of_none hl hp).symm
end
section
variable {K : PySem.W.Frag} {C : Addr} {H H0 H1 H2 H3 H' : Hp} {Q : VK} {E : XK} {m c l D : Addr} {k : Nat} {v u x : V} {n n' b : Nm}
theorem stpS {H H' : Hp} (e : Sm H H' := by infer_instance) : Stp H H' := ⟨e.s⟩
theorem seq_j0 {a b : TS} {D : Ends} {σ : L2.St} {H : Hp} (F : Prop) (h2 : ∀ H', F → Stp H H' → b D σ H') (h1 : ∀ T : L2.St → Hp → Prop, (∀ H', F → Stp H H' → T σ H') → a { D with nx := T } σ H) : tSeq a b D σ H := h1 _ h2
theorem seq_j1 {a b : TS} {D : Ends} {σ : L2.St} {H : Hp} (i : Nat) (R : V → Prop) (h2 : ∀ x H', R x → Stp H H' → b D (σ.set i (some x)) H') (h1 : ∀ T : L2.St → Hp → Prop, (∀ x H', R x → Stp H H' → T (σ.set i (some x)) H') → a { D with nx := T } σ H) : tSeq a b D σ H := h1 _ h2
theorem seq_jh {a b : TS} {D : Ends} {σ : L2.St} {H : Hp} (R : L2.St → Hp → L2.St → Hp → Prop) (h2 : ∀ σ' H', R σ H σ' H' → b D σ' H') (h1 : ∀ T : L2.St → Hp → Prop, (∀ σ' H', R σ H σ' H' → T σ' H') → a { D with nx := T } σ H) : tSeq a b D σ H := h1 _ h2
theorem seq_jr {a b : TS} {D : Ends} {σ : L2.St} {H : Hp} (R : L2.St → L2.St → Prop) (h2 : ∀ σ' H', R σ σ' → Stp H H' → b D σ' H') (h1 : ∀ T : L2.St → Hp → Prop, (∀ σ' H', R σ σ' → Stp H H' → T σ' H') → a { D with nx := T } σ H) : tSeq a b D σ H := h1 _ h2
theorem i_bornL {xs : List V} {n : Nat} {H : Hp} {Q : VK} (p : Nat.ble xs.length n = true) (h : ∀ p H', H p = none → Stp H H' → H' p = some (.lst xs) → Q (.ref p) H') : xs.length ≤ n ∧ Born H (.lst xs) Q := ⟨Nat.le_of_ble_eq_true p, fun p H' hp s e => h p H' hp ⟨s⟩ e⟩
theorem mem_ints {ns : List Int} {v : V} (h : v ∈ ns.map V.int) : ∃ i, v = .int i ∧ i ∈ ns := by
  obtain ⟨i, hi, e⟩ := List.mem_map.mp h
  exact ⟨i, e.symm, hi⟩
theorem MOk.put (M : MOk H m c l k) (o : HO) (d1 : m ≠ D) (d2 : c ≠ D) (d3 : l ≠ D) : MOk (upd H D o) m c l k := by
  obtain ⟨⟨k, cs, ls, h1, h2, h3, h4, h5, h6⟩, ne⟩ := M
  exact ⟨⟨k, cs, ls, h1, by rw [upd_ne d1]; exact h2, by rw [upd_ne d2]; exact h3, h4, by rw [upd_ne d3]; exact h5, h6⟩, ne⟩
theorem MOk.far (M : MOk H m c l k) (h : H D = none) : m ≠ D ∧ c ≠ D ∧ l ≠ D := by
  obtain ⟨⟨k, cs, ls, h1, h2, h3, h4, h5, h6⟩, ne⟩ := M
  exact ⟨ne_of_none h2 h, ne_of_none h3 h, ne_of_none h5 h⟩
theorem ex_put {xs ys : List V} (h : H D = some (.lst xs)) : Ex H (upd H D (.lst ys)) := ⟨fun b o i e => by
  have : b ≠ D := by rintro rfl; rw [h] at e; cases e; exact i
  rw [upd_ne this]; exact e⟩
theorem ex_new {ys : List V} (h : H D = none) : Ex H (upd H D (.lst ys)) := ⟨fun b o i e => by rw [upd_ne (ne_of_none e h)]; exact e⟩
theorem i_pickN {xs : List V} {r : Int} (s : H D = some (.lst xs)) (h0 : -(xs.length : Int) ≤ r) (h1 : r < xs.length) (h : ∀ v, v ∈ xs → Q v H) : rIxL K (.ref D) (.int r) H Q := by
  by_cases z : 0 ≤ r
  · exact i_pick s z h1 rfl h
  · obtain ⟨j, hj⟩ : ∃ j : Nat, r + xs.length = j := ⟨(r + xs.length).toNat, by omega⟩
    have hl : j < xs.length := by omega
    refine ⟨D, xs, r, xs[j], rfl, rfl, SqL.of s, ?_, h _ (List.getElem_mem hl)⟩
    have e : ixN xs.length r = some j := by
      unfold ixN
      rw [if_neg z, if_pos (by omega)]
      congr 1
      omega
    unfold atI
    rw [e]
    exact List.getElem?_eq_getElem hl
theorem cmp_swap (a b : Nm) : cmpN a b = 0 - cmpN b a := by
  unfold cmpN
  by_cases h : a.st = 1 ∨ b.st = 1
  · rw [if_pos h, if_pos h.symm, sgn_swap]
  · rw [if_neg h, if_neg (fun z => h z.symm), sgn_swap]
theorem list_kept (M : MOk H0 m c l k) {xs : List V} (hD : H0 D = some (.lst xs)) (d1 : m ≠ D) (d3 : l ≠ D) (e : Kc m l H0 H := by infer_instance) : H D = some (.lst xs) := e.k _ _ hD d1.symm d3.symm
theorem nd {a b : Int} (h : a = b) : (!decide (a = b)) = false := by simp [h]
end
def Small (S : Sh) : Prop := S.p ≤ 4 ∧ -5 ≤ S.lo ∧ S.hi ≤ S.lo + 3
section
variable {K : PySem.W.Frag} {C : Addr} {H H0 H1 H2 H3 H' : Hp} {Q : VK} {E : XK} {m c l D : Addr} {k : Nat} {v u x w : V} {n n' b : Nm} {S : Sh}
theorem c_cmpN (h : NumAt K C H0 v n) (h' : NumAt K C H1 w n') (k : ∀ H', Stp H H' → Q (.int (cmpN n n')) H') (h0 : n.st ≠ 2 := by first | assumption | omega) (h1 : n'.st ≠ 2 := by first | assumption | omega) (e : Ex H0 H := by infer_instance) (e' : Ex H1 H := by infer_instance) : spCompareN K C [v, w] H Q E :=
  ⟨⟨v, w, n, n'⟩, rfl, h.ex e, h'.ex e', fun H' s => by rw [show cmpV n n' = .int (cmpN n n') from if_neg (fun z => z.elim h0 h1)]; exact k H' s⟩
theorem c_cmpO (h : NumAt K C H0 v n) (h' : NumAt K C H1 w n') (k : ∀ H', Stp H H' → Q .non H') (h1 : n'.st = 2) (e : Ex H0 H := by infer_instance) (e' : Ex H1 H := by infer_instance) : spCompareN K C [v, w] H Q E :=
  ⟨⟨v, w, n, n'⟩, rfl, h.ex e, h'.ex e', fun H' s => by rw [show cmpV n n' = .non from if_pos (.inr h1)]; exact k H' s⟩
def spStr (K : PySem.W.Frag) (C : Addr) : Sp := spF (fun x : V × Nm => [x.1]) fun x H Q => NumAt K C H x.1 x.2 ∧ x.2.st ≠ 2 ∧ Small x.2.S ∧ Q (.str (strN x.2)) H
def spRankP (K : PySem.W.Frag) : Sp := spF (fun x : V × Nm => [x.1]) fun x H Q => PlAt K H x.1 x.2 ∧ Q (.int x.2.rank) H
theorem c_rankP (h : PlAt K H0 v n) (k : Q (.int n.rank) H) (e : Ex H0 H := by infer_instance) : spRankP K [v] H Q E := ⟨⟨v, n⟩, rfl, h.ex e, k⟩
def spRanked (K : PySem.W.Frag) : Sp := spF (fun x : V × Int × Int × Sh => [x.1, .int x.2.1, .int x.2.2.1]) fun x H Q => ShAt K H x.1 x.2.2.2 ∧ Small x.2.2.2 ∧ -x.2.2.2.last ≤ x.2.1 ∧ x.2.1 ≤ x.2.2.2.last ∧ (x.2.2.1 = 0 ∨ x.2.2.1 = 1) ∧ ∀ w H', Stp H H' → PlAt K H' w (plainN x.2.2.2 x.2.1 x.2.2.1) → Q w H'
theorem c_ranked {r s : Int} (h : ShAt K H0 v S) (k : ∀ w H', Stp H H' → PlAt K H' w (plainN S r s) → Q w H') (h1 : -S.last ≤ r := by omega) (h2 : r ≤ S.last := by omega) (h3 : s = 0 ∨ s = 1 := by omega) (sm : Small S := by assumption) (e : Ex H0 H := by infer_instance) : spRanked K [v, .int r, .int s] H Q E := ⟨⟨v, r, s, S⟩, rfl, h.ex e, sm, h1, h2, h3, k⟩
def spIs (K : PySem.W.Frag) (C : Addr) : Sp := spF (fun x : V × V × Nm => [x.1, x.2.1]) fun x H Q => NumAt K C H x.1 x.2.2 ∧ PlAt K H x.2.1 x.2.2 ∧ Small x.2.2.S ∧ ∀ H', Stp H H' → Q (.bl true) H'
theorem c_is (h : NumAt K C H0 v n) (h' : PlAt K H1 w n) (sm : Small n.S) (k : ∀ H', Stp H H' → Q (.bl true) H') (e : Ex H0 H := by infer_instance) (e' : Ex H1 H := by infer_instance) : spIs K C [v, w] H Q E := ⟨⟨v, w, n⟩, rfl, h.ex e, h'.ex e', sm, k⟩
theorem i_strO {C : Addr} {sp : Sp} {xs : List V} (h : ∃ a dx fs, xs = [.ref a] ∧ H a = some (.ins C dx fs) ∧ sp [.ref a] H (fun v H' => ∃ z, v = .str z ∧ Q (.str z) H') E0) : rStrO C sp xs H Q := h
theorem c_str (h : NumAt K C H0 v n) (k : Q (.str (strN n)) H) (h0 : n.st ≠ 2 := by first | assumption | omega) (sm : Small n.S := by assumption) (e : Ex H0 H := by infer_instance) : rStrO C (spStr K C) [v] H Q := by
  obtain ⟨o, a, dx, sh, rfl, h2, h3⟩ := id (h.ex e)
  exact ⟨a, dx, _, rfl, h2, ⟨.ref a, n⟩, rfl, h.ex e, h0, sm, _, rfl, k⟩
theorem small_fn (sm : Small S) : S.fn ≤ 8 := by
  obtain ⟨h1, h2, h3⟩ := sm
  unfold Sh.fn
  exact Int.le_trans (ip_mono (show S.p.toNat - 1 ≤ 3 by omega)) (by decide)
theorem small_ok (o : n.Ok) (sm : Small n.S) : n.m.natAbs ≤ 1000 ∧ n.e.natAbs ≤ 1000 ∧ n.S.p.natAbs ≤ 1000 ∧ n.S.lo.natAbs ≤ 1000 ∧ n.S.hi.natAbs ≤ 1000 ∧ n.s.natAbs ≤ 1000 ∧ n.S.fn ≤ 8 := by
  obtain ⟨h1, h2, h3⟩ := sm
  have sh := o.sh
  have := sh.p2; have := sh.l0; have := sh.l1; have := sh.h0; have := sh.h1; have := o.m0; have := o.m1; have := o.e0; have := o.e1; have := o.s01
  have fB : n.S.fn ≤ 8 := by
    unfold Sh.fn
    exact Int.le_trans (ip_mono (show n.S.p.toNat - 1 ≤ 3 by omega)) (by decide)
  omega
end
local macro_rules | `(tactic| walk_at "nm") => `(tactic| repeat' (first
  | with_reducible refine i_seq ?_ | with_reducible refine i_asg ?_ | with_reducible refine i_ret ?_ | with_reducible refine i_drop ?_ | with_reducible refine i_ifS ?_ | with_reducible refine i_next ?_
  | with_reducible refine i_cons ?_ | with_reducible refine i_nil ?_ | with_reducible refine i_op ?_ | with_reducible refine i_un ?_ | with_reducible refine i_c ?_
  | with_reducible refine i_var ?_
  | with_reducible refine i_rI0 ?_ | with_reducible refine i_rU ?_
  | with_reducible refine i_rIa ?_
  | with_reducible refine i_test ?_ | with_reducible refine i_b ?_ | with_reducible refine i_bl ?_ | with_reducible refine i_if ?_ | with_reducible refine i_and ?_ | with_reducible refine i_or ?_ | with_reducible refine i_not ?_
  | with_reducible refine i_andV ?_ | with_reducible refine i_orV ?_ | with_reducible refine i_notV ?_ | with_reducible refine i_cb ?_ | with_reducible refine i_tup ?_ | with_reducible refine i_lst ?_ | with_reducible refine i_dget ?_
  | with_reducible refine i_gname ?_ | with_reducible refine i_chain ?_ | with_reducible refine i_eqI ?_ | with_reducible refine i_neI ?_ | with_reducible refine i_sl ?_ | with_reducible refine i_nopart ?_ | with_reducible refine i_part ?_ | with_reducible refine i_int ?_ | with_reducible refine i_par ?_ | with_reducible refine i_two ?_ | with_reducible refine i_strs ?_ | with_reducible refine i_isB ?_ | with_reducible refine i_isntB ?_ | with_reducible refine i_for ?_ | with_reducible refine i_itup ?_ | with_reducible refine i_ilist ?_ | with_reducible refine i_rng1 ?_
  | with_reducible refine i_fld ?_ | with_reducible refine f_sign (by assumption) (by assumption) ?_ | with_reducible refine f_m (by assumption) (by assumption) ?_ | with_reducible refine f_e (by assumption) (by assumption) ?_ | with_reducible refine f_state (by assumption) (by assumption) ?_
  | (with_reducible refine f_shape (by assumption) (by assumption) ?_; intro _ _)
  | with_reducible refine i_meth0 ?_ | with_reducible refine m_num (by assumption) ?_ | with_reducible refine i_call ?_ | with_reducible refine i_callP ?_ | with_reducible refine i_eqS ?_
  | with_reducible refine i_ixSh0 (by assumption) ?_ | with_reducible refine i_ixSh1 (by assumption) ?_ | with_reducible refine i_ixSh2 (by assumption) ?_ | with_reducible refine g_sh3 (by assumption) ?_ | with_reducible refine g_two (by assumption) ?_
  | with_reducible refine i_ixTup (by assumption) ?_
  | with_reducible refine i_fdB ?_ | with_reducible refine i_bm0 ?_ | with_reducible refine i_bits ?_ | with_reducible refine i_max ?_ | with_reducible refine i_min ?_ | with_reducible refine i_abs ?_ | with_reducible refine i_mul ?_ | with_reducible refine i_shl ?_
  | with_reducible refine c_shape (by assumption) ?_ | with_reducible refine c_shint (by assumption) ?_ | with_reducible refine c_nmint (by assumption) ?_ | with_reducible refine c_kind (by assumption) ?_ | with_reducible refine c_wantNum (by assumption) ?_ | with_reducible refine c_order ?_ | with_reducible refine c_whole ?_
  | (with_reducible refine c_shapeM (by assumption) ?_; intro _ _) | (with_reducible refine c_parts (by assumption) ?_; intro _ _ _ _) | (with_reducible refine c_value (by assumption) ?_; intro _ _ _ _) | (with_reducible refine c_rank (by assumption) ?_; intro _ _) | (with_reducible refine c_steps (by assumption) ?_; intro _ _)
  | (with_reducible refine c_word (by assumption) ?_; intro _ _) | (with_reducible refine c_nmnm (by assumption) ?_; intro _ _ _ _) | (with_reducible refine c_compare (by assumption) (by assumption) ?_; intro _ _) | (with_reducible refine c_moved (by assumption) ?_; intro _ _ _ _)
  | with_reducible refine c_eq (by assumption) (by assumption) ?_ | with_reducible refine c_ne (by assumption) (by assumption) ?_
  | with_reducible refine i_isNN ?_ | with_reducible refine i_isNI ?_ | with_reducible refine i_sfld ?_ | with_reducible refine i_make ?_ | with_reducible refine c_eqSh (by assumption) (by assumption) ?_ | with_reducible refine c_neSh (by assumption) (by assumption) ?_ | with_reducible refine c_ne2 (by assumption) (by assumption) ?_
  | with_reducible refine i_par3 ?_ | with_reducible refine i_three ?_ | with_reducible refine g_three (by assumption) ?_
  | with_reducible refine i_pl0 (by assumption) ?_ | (with_reducible refine i_pl1 (by assumption) ?_; intro _ _) | with_reducible refine i_pl2 (by assumption) ?_ | with_reducible refine i_pl3 (by assumption) ?_ | with_reducible refine i_pl4 (by assumption) ?_
  | with_reducible refine i_fmt ?_ | with_reducible refine i_jc ?_ | with_reducible refine i_jn ?_
  | (with_reducible refine c_cmpN (by assumption) (by assumption) ?_; intro _ _) | with_reducible refine c_rankP (by assumption) ?_))
local macro_rules | `(tactic| walk_at "nm0") => `(tactic| repeat' (first
  | with_reducible refine i_asg ?_ | with_reducible refine i_ret ?_ | with_reducible refine i_drop ?_ | with_reducible refine i_ifS ?_ | with_reducible refine i_next ?_
  | with_reducible refine i_cons ?_ | with_reducible refine i_nil ?_ | with_reducible refine i_op ?_ | with_reducible refine i_un ?_ | with_reducible refine i_c ?_
  | with_reducible refine i_var ?_
  | with_reducible refine i_rI0 ?_ | with_reducible refine i_rU ?_
  | with_reducible refine i_rIa ?_
  | with_reducible refine i_test ?_ | with_reducible refine i_b ?_ | with_reducible refine i_bl ?_ | with_reducible refine i_if ?_ | with_reducible refine i_and ?_ | with_reducible refine i_or ?_ | with_reducible refine i_not ?_
  | with_reducible refine i_andV ?_ | with_reducible refine i_orV ?_ | with_reducible refine i_notV ?_ | with_reducible refine i_cb ?_ | with_reducible refine i_tup ?_ | with_reducible refine i_lst ?_ | with_reducible refine i_dget ?_
  | with_reducible refine i_gname ?_ | with_reducible refine i_chain ?_ | with_reducible refine i_eqI ?_ | with_reducible refine i_neI ?_ | with_reducible refine i_sl ?_ | with_reducible refine i_nopart ?_ | with_reducible refine i_part ?_ | with_reducible refine i_int ?_ | with_reducible refine i_par ?_ | with_reducible refine i_two ?_ | with_reducible refine i_strs ?_ | with_reducible refine i_isB ?_ | with_reducible refine i_isntB ?_ | with_reducible refine i_for ?_ | with_reducible refine i_itup ?_ | with_reducible refine i_ilist ?_ | with_reducible refine i_rng1 ?_
  | with_reducible refine i_fld ?_ | with_reducible refine f_sign (by assumption) (by assumption) ?_ | with_reducible refine f_m (by assumption) (by assumption) ?_ | with_reducible refine f_e (by assumption) (by assumption) ?_ | with_reducible refine f_state (by assumption) (by assumption) ?_
  | (with_reducible refine f_shape (by assumption) (by assumption) ?_; intro _ _)
  | with_reducible refine i_meth0 ?_ | with_reducible refine m_num (by assumption) ?_ | with_reducible refine i_call ?_ | with_reducible refine i_callP ?_ | with_reducible refine i_eqS ?_
  | with_reducible refine i_ixSh0 (by assumption) ?_ | with_reducible refine i_ixSh1 (by assumption) ?_ | with_reducible refine i_ixSh2 (by assumption) ?_ | with_reducible refine g_sh3 (by assumption) ?_ | with_reducible refine g_two (by assumption) ?_
  | with_reducible refine i_ixTup (by assumption) ?_
  | with_reducible refine i_fdB ?_ | with_reducible refine i_bm0 ?_ | with_reducible refine i_bits ?_ | with_reducible refine i_max ?_ | with_reducible refine i_min ?_ | with_reducible refine i_abs ?_ | with_reducible refine i_mul ?_ | with_reducible refine i_shl ?_
  | with_reducible refine c_shape (by assumption) ?_ | with_reducible refine c_shint (by assumption) ?_ | with_reducible refine c_nmint (by assumption) ?_ | with_reducible refine c_kind (by assumption) ?_ | with_reducible refine c_wantNum (by assumption) ?_ | with_reducible refine c_order ?_ | with_reducible refine c_whole ?_
  | (with_reducible refine c_shapeM (by assumption) ?_; intro _ _) | (with_reducible refine c_parts (by assumption) ?_; intro _ _ _ _) | (with_reducible refine c_value (by assumption) ?_; intro _ _ _ _) | (with_reducible refine c_rank (by assumption) ?_; intro _ _) | (with_reducible refine c_steps (by assumption) ?_; intro _ _)
  | (with_reducible refine c_word (by assumption) ?_; intro _ _) | (with_reducible refine c_nmnm (by assumption) ?_; intro _ _ _ _) | (with_reducible refine c_compare (by assumption) (by assumption) ?_; intro _ _) | (with_reducible refine c_moved (by assumption) ?_; intro _ _ _ _)
  | with_reducible refine c_eq (by assumption) (by assumption) ?_ | with_reducible refine c_ne (by assumption) (by assumption) ?_
  | with_reducible refine i_isNN ?_ | with_reducible refine i_isNI ?_ | with_reducible refine i_sfld ?_ | with_reducible refine i_make ?_ | with_reducible refine c_eqSh (by assumption) (by assumption) ?_ | with_reducible refine c_neSh (by assumption) (by assumption) ?_ | with_reducible refine c_ne2 (by assumption) (by assumption) ?_
  | with_reducible refine i_par3 ?_ | with_reducible refine i_three ?_ | with_reducible refine g_three (by assumption) ?_
  | with_reducible refine i_pl0 (by assumption) ?_ | (with_reducible refine i_pl1 (by assumption) ?_; intro _ _) | with_reducible refine i_pl2 (by assumption) ?_ | with_reducible refine i_pl3 (by assumption) ?_ | with_reducible refine i_pl4 (by assumption) ?_
  | with_reducible refine i_fmt ?_ | with_reducible refine i_jc ?_ | with_reducible refine i_jn ?_
  | (with_reducible refine c_cmpN (by assumption) (by assumption) ?_; intro _ _) | with_reducible refine c_rankP (by assumption) ?_))
abbrev st_Number_str : Stmt := inClass (top 15) 12
theorem sc_Number_str : FnScope ["self"] ["self"] (defScope st_Number_str) := ⟨rfl, rfl, rfl, by decide +kernel, rfl, by decide +kernel, by decide +kernel⟩
abbrev st_l_top : Stmt := top 39
theorem sc_l_top : FnScope ["_law_form"] ["_law_form"] (defScope st_l_top) := ⟨rfl, rfl, rfl, by decide +kernel, rfl, by decide +kernel, by decide +kernel⟩
abbrev st_l_rank : Stmt := top 40
theorem sc_l_rank : FnScope ["_law_plain", "_law_form", "_law_size"] ["_law_plain"] (defScope st_l_rank) := ⟨rfl, rfl, rfl, by decide +kernel, rfl, by decide +kernel, by decide +kernel⟩
abbrev st_l_ranked : Stmt := top 41
theorem sc_l_ranked : FnScope ["_law_form", "_law_place", "_law_side", "_law_size", "_law_half"] ["_law_form", "_law_place", "_law_side"] (defScope st_l_ranked) := ⟨rfl, rfl, rfl, by decide +kernel, rfl, by decide +kernel, by decide +kernel⟩
abbrev st_l_is : Stmt := top 42
theorem sc_l_is : FnScope ["_law_number", "_law_plain", "_law_owed", "_law_half", "_law_state"] ["_law_number", "_law_plain"] (defScope st_l_is) := ⟨rfl, rfl, rfl, by decide +kernel, rfl, by decide +kernel, by decide +kernel⟩
section
variable {P : Program} {w : World} {K : PySem.W.Frag} {mg : Str → Option Value} {base : Heap} {C : Addr}
theorem ok_Number_str {f : Addr} {fd : FuncData} (F : Fun K "__str__" "Number.__str__" st_Number_str f fd) (T : NumC K C) (TM_MARKS : TupK K a_MARKS ["", "-"]) (R_MARKS : mg "MARKS" = some (.ref a_MARKS)) (G_INFINITE : GStr mg "INFINITE" "infinite") (G_NAN : GStr mg "NAN" "nan") :
    FnOk P w K mg base CX0 1 f fd ["self"] (spStr K C) := by
  refine F.okW sc_Number_str (spF.len fun _ => rfl) (fun cdv A outer s H vs Q E hr h => ?_)
  refine (?_ : ∃ t, Wr (PSs _ _ t) ∧ t _ _ _)
  obtain ⟨⟨v, n⟩, rfl, hv, h2, sm, q⟩ := h
  simp only at *
  have ok := hv.1
  obtain ⟨a1, a2, -⟩ := small_ok ok sm
  have tm := fun H => TM_MARKS H
  have st := ok.st2
  have b1 := int_len a1
  have b2 := int_len a2
  have ml := mark_len n.s
  have l0 := len0
  have lp : (("p" : String) : Str).length = 1 := rfl
  have li : (("inf" : String) : Str).length = 3 := rfl
  have sz := szM
  refine ⟨_, (wss_cons (ws_if (wt_cmpR op_eq (we_fld (wv 0)) (we_gstr G_NAN (by rfl)) (nomark _)) (wss_one (ws_ret we_str)) wss_nil)
        (wss_cons (ws_if (wt_cmpR op_eq (we_fld (wv 0)) (we_gstr G_INFINITE (by rfl)) (nomark _)) (wss_one (ws_ret (we_join (wj_cons (we_fmt (we_ix ix_tup (we_gref (by rfl) R_MARKS) (we_fld (wv 0)) (fun _ _ => rfl))) (wj_cons we_str wj_nil))))) wss_nil)
        (wss_one (ws_ret (we_join (wj_cons (we_fmt (we_ix ix_tup (we_gref (by rfl) R_MARKS) (we_fld (wv 0)) (fun _ _ => rfl))) (wj_cons (we_fmt (we_fld (wv 0))) (wj_cons we_str (wj_cons (we_fmt (we_fld (wv 0))) wj_nil))))))))), ?_⟩
  (try simp only [cx_K, cx_K2])
  walk_at "nm"
  rw [stS_nan st]
  refine ifF' (decide_eq_false h2) ?_
  walk_at "nm"
  rw [stS_inf st]
  refine i_ite (fun z => ?_) (fun z => ?_)
  · walk_at "nm"
    refine i_mark TM_MARKS ok.s01 ?_
    refine i_fmtS (by omega) ?_
    refine i_js (by rw [strLen_append]; omega) ?_
    walk_at "nm"
    refine i_js (by rw [strLen_append, strLen_append]; omega) ?_
    walk_at "nm"
    rw [strN_inf (of_decide_eq_true z)]
    exact q
  · have z' := of_decide_eq_false z
    walk_at "nm"
    refine i_mark TM_MARKS ok.s01 ?_
    refine i_fmtS (by omega) ?_
    refine i_js (by rw [strLen_append]; omega) ?_
    walk_at "nm"
    refine i_fmtI (log_small a1) ?_
    refine i_js (by rw [strLen_append, strLen_append]; omega) ?_
    walk_at "nm"
    refine i_js (by rw [strLen_append, strLen_append, strLen_append]; omega) ?_
    walk_at "nm"
    refine i_fmtI (log_small a2) ?_
    refine i_js (by rw [strLen_append, strLen_append, strLen_append, strLen_append]; omega) ?_
    walk_at "nm"
    rw [strN_fin (by omega)]
    exact q
theorem ok_l_top {f : Addr} {fd : FuncData} (F : Fun K "_law_top" "_law_top" st_l_top f fd)  :
    FnOk P w K mg base CX0 1 f fd ["_law_form"] (spShInt K Dw.Sh.last) := by
  refine F.okW sc_l_top (spF.len fun _ => rfl) (fun cdv A outer s H vs Q E hr h => ?_)
  refine (?_ : ∃ t, Wr (PSs _ _ t) ∧ t _ _ _)
  obtain ⟨⟨v, S⟩, rfl, hs, q⟩ := h
  simp only at *
  have sh := hs.1
  have := sh.p2; have := sh.p64; have := sh.l0; have := sh.l1; have := sh.h0; have := sh.h1
  refine ⟨_, (wss_one (ws_ret (we_op op_shl (we_op op_add (we_op op_sub (we_ix ix_tup (wv 0) we_int (fun _ _ => rfl)) (we_ix ix_tup (wv 0) we_int (fun _ _ => rfl))) we_int) (we_op op_sub (we_ix ix_tup (wv 0) we_int (fun _ _ => rfl)) we_int)))), ?_⟩
  (try simp only [cx_K, cx_K2])
  walk_at "nm"
  have e : (S.hi - S.lo + 2) * 2 ^ (S.p - 1).toNat = S.last := by
    unfold Sh.last Sh.fn
    congr 2
    omega
  rw [e]
  exact q
theorem ok_l_rank {f : Addr} {fd : FuncData} (F : Fun K "_law_rank" "_law_rank" st_l_rank f fd) (C__law_top : Cal P w K mg base 1 "_law_top" ["_law_form"] (spShInt K Dw.Sh.last)) :
    FnOk P w K mg base CX0 2 f fd ["_law_plain"] (spRankP K) := by
  refine F.okW sc_l_rank (spF.len fun _ => rfl) (fun cdv A outer s H vs Q E hr h => ?_)
  refine (?_ : ∃ t, Wr (PSs _ _ t) ∧ t _ _ _)
  obtain ⟨⟨v, n⟩, rfl, hv, q⟩ := h
  simp only at *
  have ok := hv.1
  have sh := ok.sh
  have := sh.p2; have := sh.p64; have := sh.l0; have := sh.l1; have := sh.h0; have := sh.h1; have := ok.e0; have := ok.e1
  have st := ok.st2
  have h2 := hv.2.1
  have pe : n.st = 0 → plE n = n.e := fun z => by unfold plE; rw [if_neg (by omega)]
  have e : ∀ x : Int, x * 2 ^ (n.S.p - 1).toNat = x * n.S.fn := fun x => by
    unfold Sh.fn
    congr 2
    omega
  refine ⟨_, (wss_cons (ws_set (i := 1) sc_l_rank.nd rfl (Or.inl rfl) (we_ix ix_tup (wv 0) we_int (fun _ _ => rfl)))
        (wss_cons (ws_set (i := 2) sc_l_rank.nd rfl (Or.inl rfl) (we_cal C__law_top (hr.mono (by decide)) (by rfl) (wa_cons (wv 1) wa_nil)))
        (wss_cons (ws_if (wt_cmpR op_eq (we_ix ix_tup (wv 0) we_int (fun _ _ => rfl)) we_str (nomark _)) (wss_one (ws_set (i := 2) sc_l_rank.nd rfl (Or.inl rfl) (we_op op_add (we_ix ix_tup (wv 0) we_int (fun _ _ => rfl)) (we_op op_shl (we_op op_sub (we_ix ix_tup (wv 0) we_int (fun _ _ => rfl)) (we_ix ix_tup (wv 1) we_int (fun _ _ => rfl))) (we_op op_sub (we_ix ix_tup (wv 1) we_int (fun _ _ => rfl)) we_int))))) wss_nil)
        (wss_one (ws_ret (we_ifExp (wt_cmpR op_eq (we_ix ix_tup (wv 0) we_int (fun _ _ => rfl)) we_int (nomark _)) (we_op op_sub we_int (wv 2)) (wv 2))))))), ?_⟩
  (try simp only [cx_K, cx_K2])
  walk_at "nm"
  rw [stS_fin st]
  refine i_ite (fun z => ?_) (fun z => ?_)
  · have z' := of_decide_eq_true z
    have pe' := pe z'
    rw [show n.rank = if n.s = 1 then -n.stp else n.stp from by unfold Nm.rank Nm.steps; rw [if_neg (show ¬ n.st = 1 by omega)]] at q
    walk_at "nm"
    rw [e, pe']
    refine i_ite (fun y => ?_) (fun y => ?_)
    · walk_at "nm"
      rw [if_pos (of_decide_eq_true y)] at q
      rw [show 0 - (n.m + (n.e - n.S.lo) * n.S.fn) = -n.stp from by unfold Nm.stp; omega]
      exact q
    · walk_at "nm"
      rw [if_neg (of_decide_eq_false y)] at q
      exact q
  · have z' := of_decide_eq_false z
    rw [show n.rank = if n.s = 1 then -n.S.last else n.S.last from by unfold Nm.rank Nm.steps; rw [if_pos (show n.st = 1 by omega)]] at q
    walk_at "nm"
    refine i_ite (fun y => ?_) (fun y => ?_)
    · walk_at "nm"
      rw [if_pos (of_decide_eq_true y)] at q
      rw [show 0 - n.S.last = -n.S.last from by omega]
      exact q
    · walk_at "nm"
      rw [if_neg (of_decide_eq_false y)] at q
      exact q
theorem ok_l_ranked {f : Addr} {fd : FuncData} (F : Fun K "_law_ranked" "_law_ranked" st_l_ranked f fd) (C__law_top : Cal P w K mg base 1 "_law_top" ["_law_form"] (spShInt K Dw.Sh.last)) (nb_abs : mg "abs" = none) :
    FnOk P w K mg base CX0 2 f fd ["_law_form", "_law_place", "_law_side"] (spRanked K) := by
  refine F.okW sc_l_ranked (spF.len fun _ => rfl) (fun cdv A outer s H vs Q E hr h => ?_)
  refine (?_ : ∃ t, Wr (PSs _ _ t) ∧ t _ _ _)
  obtain ⟨⟨v, r, s, S⟩, rfl, hs, sm, r0, r1, s01, q⟩ := h
  simp only at *
  have sh := hs.1
  have := sh.p2; have := sh.p64; have := sh.l0; have := sh.l1; have := sh.h0; have := sh.h1
  have fB := small_fn sm; have f2 := sh.fn2; have l4 := sh.last4
  have fe : (1 : Int) * 2 ^ (S.p - 1).toNat = S.fn := by
    rw [Int.one_mul]
    unfold Sh.fn
    congr 1
    omega
  refine ⟨_, (wss_cons (ws_par (i := 3) (j := 4) (by rfl) sc_l_ranked.nd rfl rfl (by decide) rfl rfl (wa_cons (we_callB call_absM (by rfl) nb_abs (by decide +kernel) (wa_cons (wv 1) wa_nil)) (wa_cons (we_op op_shl we_int (we_op op_sub (we_ix ix_tup (wv 0) we_int (fun _ _ => rfl)) we_int)) wa_nil)) (by rfl))
        (wss_cons (ws_if (wt_cmpR op_ne (wv 1) we_int (nomark _)) (wss_one (ws_set (i := 2) sc_l_ranked.nd rfl (Or.inl rfl) (we_ifExp (wt_cmpR op_lt (wv 1) we_int (nomark _)) we_int we_int))) wss_nil)
        (wss_cons (ws_if (wt_cmpR op_eq (wv 3) (we_cal C__law_top (hr.mono (by decide)) (by rfl) (wa_cons (wv 0) wa_nil)) (nomark _)) (wss_one (ws_ret (we_tupA (wa_cons we_str (wa_cons (wv 0) (wa_cons (wv 2) (wa_cons we_int (wa_cons we_int wa_nil)))))))) wss_nil)
        (wss_cons (ws_if (wt_cmpR op_lt (wv 3) (wv 4) (nomark _)) (wss_one (ws_ret (we_tupA (wa_cons we_str (wa_cons (wv 0) (wa_cons (wv 2) (wa_cons (wv 3) (wa_cons (we_ix ix_tup (wv 0) we_int (fun _ _ => rfl)) wa_nil)))))))) wss_nil)
        (wss_one (ws_ret (we_tupA (wa_cons we_str (wa_cons (wv 0) (wa_cons (wv 2) (wa_cons (we_op op_add (wv 4) (we_op op_mod (wv 3) (wv 4))) (wa_cons (we_op op_sub (we_op op_add (we_ix ix_tup (wv 0) we_int (fun _ _ => rfl)) (we_op op_fdiv (wv 3) (wv 4))) we_int) wa_nil)))))))))))), ?_⟩
  (try simp only [cx_K, cx_K2])
  walk_at "nm0"
  with_reducible refine i_seq ?_
  walk_at "nm0"
  rw [fe]
  with_reducible refine seq_jr (fun σ σ' => ∃ s', σ' = List.set σ 2 (some (.int s')) ∧ (s' = 0 ∨ s' = 1) ∧ (plainN S r s = S.ofSteps (absI r) s')) (fun σ' H2 e2 s2 => ?_) (fun T tl => ?_)
  rotate_left
  · walk_at "nm0"
    refine i_ite (fun z => ?_) (fun z => ?_)
    · have z' : r ≠ 0 := by simpa using z
      walk_at "nm0"
      refine i_ite (fun y => ?_) (fun y => ?_)
      · walk_at "nm0"
        exact tl _ _ ⟨1, rfl, .inr rfl, by unfold plainN rankN; rw [if_neg z', if_pos (of_decide_eq_true y)]⟩ stpS
      · walk_at "nm0"
        exact tl _ _ ⟨0, rfl, .inl rfl, by unfold plainN rankN; rw [if_neg z', if_neg (of_decide_eq_false y)]⟩ stpS
    · have z' : r = 0 := by simpa using z
      walk_at "nm0"
      refine tl _ _ ⟨s, rfl, s01, ?_⟩ stpS
      subst z'
      unfold plainN
      rw [if_pos rfl]
      exact (zero_steps sh s).symm
  obtain ⟨s', rfl, s1, pl⟩ := e2
  rw [pl] at q
  have ab : 0 ≤ absI r ∧ absI r ≤ S.last := by unfold absI; split <;> omega
  generalize absI r = k at *
  obtain ⟨k0, k1⟩ := ab
  have so := (sh.stepsOk k0 k1 s1)
  walk_at "nm"
  refine i_ite (fun z => ?_) (fun z => ?_)
  · have z' := of_decide_eq_true z
    walk_at "nm"
    have e : S.ofSteps k s' = S.inf s' := by unfold Sh.ofSteps; rw [if_pos z']
    rw [e] at q
    exact i_bornT (K := K) rfl fun p G g1 t1 => q p G stpS (pl_of (sh.infOk s1) (fun z => nomatch z) (hs.ex inferInstance) t1 rfl rfl rfl rfl)
  · have z' := of_decide_eq_false z
    walk_at "nm"
    refine i_ite (fun y => ?_) (fun y => ?_)
    · have y' := of_decide_eq_true y
      walk_at "nm"
      have o1 := so.1
      rw [steps_lo sh k0 y'] at q o1
      exact i_bornT (K := K) rfl fun p G g1 t1 => q p G stpS (pl_of o1 (fun z => nomatch z) (hs.ex inferInstance) t1 rfl rfl rfl rfl)
    · have y' := of_decide_eq_false y
      walk_at "nm"
      have o1 := so.1
      rw [steps_hi sh (by omega) z'] at q o1
      refine i_rI (show (0 : Int) < S.fn by omega) ?_
      walk_at "nm"
      refine i_rI ⟨by omega, by omega⟩ ?_
      walk_at "nm"
      exact i_bornT (K := K) rfl fun p G g1 t1 => q p G stpS (pl_of o1 (fun z => nomatch z) (hs.ex inferInstance) t1 rfl rfl rfl rfl)
theorem ok_l_is {f : Addr} {fd : FuncData} (F : Fun K "_law_is" "_law_is" st_l_is f fd) (nb_repr : mg "repr" = none) (S_Number : CalS P w K mg base 1 C ["self"] (spStr K C)) (nb_str : mg "str" = none) (T : NumC K C) (O_kind : CalO P w K mg base 2 C "kind" ["self"] (spKind K C)) (O_sign : CalO P w K mg base 1 C "sign" ["self"] (spNmInt K C Dw.Nm.s)) (O_shape : CalO P w K mg base 1 C "shape" ["self"] (spShapeM K C)) :
    FnOk P w K mg base CX0 4 f fd ["_law_number", "_law_plain"] (spIs K C) := by
  refine F.okW sc_l_is (spF.len fun _ => rfl) (fun cdv A outer s H vs Q E hr h => ?_)
  refine (?_ : ∃ t, Wr (PSs _ _ t) ∧ t _ _ _)
  obtain ⟨⟨v, u, n⟩, rfl, hv, hu, sm, q⟩ := h
  simp only at *
  have ok := hv.1
  have h2 := hu.2.1
  have sh := ok.sh
  have := sh.p2; have := sh.p64
  obtain ⟨a1, a2, a3, a4, a5, a6, a7⟩ := small_ok ok sm
  have st := ok.st2
  have f2 := sh.fn2
  have b1 := int_len a1
  have b2 := int_len a2
  have ml := mark_len n.s
  have l0 := len0
  have lp : (("p" : String) : Str).length = 1 := rfl
  have sz := szM
  have ks := kind_small n st
  have ts := strN_small a1 a2
  have shw := is_shows a3 a4 a5 a6 ks.1 ks.2 ts.1 ts.2
  refine ⟨_, (wss_cons (ws_if (wt_cmpR op_eq (we_ix ix_tup (wv 1) we_int (fun _ _ => rfl)) we_str (nomark _)) (wss_one (ws_set (i := 2) sc_l_is.nd rfl (Or.inl rfl) (we_lstA (wa_cons (we_ix ix_tup (wv 1) we_int (fun _ _ => rfl)) (wa_cons (we_ix ix_tup (wv 1) we_int (fun _ _ => rfl)) (wa_cons we_str (wa_cons (we_ifExp (wt_cmpR op_eq (we_ix ix_tup (wv 1) we_int (fun _ _ => rfl)) we_int (nomark _)) we_str we_str) wa_nil))))))) (wss_cons (ws_set (i := 3) sc_l_is.nd rfl (Or.inl rfl) (we_op op_shl we_int (we_op op_sub (we_ix ix_tup (we_ix ix_tup (wv 1) we_int (fun _ _ => rfl)) we_int (fun _ _ => rfl)) we_int)))
        (wss_cons (ws_set (i := 4) sc_l_is.nd rfl (Or.inl rfl) (we_ifExp (wt_cmpR op_ge (we_ix ix_tup (wv 1) we_int (fun _ _ => rfl)) (wv 3) (nomark _)) we_str (we_ifExp (wt_cmpR op_eq (we_ix ix_tup (wv 1) we_int (fun _ _ => rfl)) we_int (nomark _)) we_str we_str)))
        (wss_one (ws_set (i := 2) sc_l_is.nd rfl (Or.inl rfl) (we_lstA (wa_cons (we_ix ix_tup (wv 1) we_int (fun _ _ => rfl)) (wa_cons (we_ix ix_tup (wv 1) we_int (fun _ _ => rfl)) (wa_cons (wv 4) (wa_cons (we_op op_add_str (we_ifExp (wt_cmpR op_eq (we_ix ix_tup (wv 1) we_int (fun _ _ => rfl)) we_int (nomark _)) we_str we_str) (we_join (wj_cons (we_fmt (we_ix ix_tup (wv 1) we_int (fun _ _ => rfl))) (wj_cons we_str (wj_cons (we_fmt (we_ix ix_tup (wv 1) we_int (fun _ _ => rfl))) wj_nil))))) wa_nil))))))))))
        (wss_one (ws_ret (we_cmpR op_eq (we_callB (call_repr hr.units hr.gd) (by rfl) nb_repr (by decide +kernel) (wa_cons (we_lstA (wa_cons (we_meth0 O_shape (hr.mono (by decide)) (wv 0)) (wa_cons (we_meth0 O_sign (hr.mono (by decide)) (wv 0)) (wa_cons (we_meth0 O_kind (hr.mono (by decide)) (wv 0)) (wa_cons (we_callTy (call_strO S_Number (hr.mono (by decide))) (by rfl) nb_str (by decide +kernel) (wa_cons (wv 0) wa_nil)) wa_nil))))) wa_nil)) (we_callB (call_repr hr.units hr.gd) (by rfl) nb_repr (by decide +kernel) (wa_cons (wv 2) wa_nil)) (nomark _))))), ?_⟩
  (try simp only [cx_K, cx_K2])
  with_reducible refine seq_jh (fun _ H σ' H' => ∃ p fo v3 v4, σ' = [some v, some u, some (.ref p), v3, v4] ∧ Stp H H' ∧ ShAt K H' fo n.S ∧ H' p = some (.lst [fo, .int n.s, .str (kindS n), .str (strN n)])) (fun σ' H2 e2 => ?_) (fun T tl => ?_)
  rotate_left
  · walk_at "nm0"
    rw [stS_inf st]
    refine i_ite (fun z => ?_) (fun z => ?_)
    · have z' := of_decide_eq_true z
      walk_at "nm0"
      rename_i fo hfo
      refine i_ite (fun y => ?_) (fun y => ?_)
      · walk_at "nm0"
        have e : strN n = "-inf" := by unfold strN markS; rw [if_pos z', if_pos (of_decide_eq_true y)]; rfl
        refine i_bornL rfl fun p2 G2 n2 s2 t2 => ?_
        walk_at "nm0"
        exact tl _ _ ⟨p2, _, _, _, rfl, stpS, hfo.ex inferInstance, by rw [kind_inf z', e]; exact t2⟩
      · walk_at "nm0"
        have e : strN n = "inf" := by unfold strN markS; rw [if_pos z', if_neg (of_decide_eq_false y)]; rfl
        refine i_bornL rfl fun p2 G2 n2 s2 t2 => ?_
        walk_at "nm0"
        exact tl _ _ ⟨p2, _, _, _, rfl, stpS, hfo.ex inferInstance, by rw [kind_inf z', e]; exact t2⟩
    · have z' := of_decide_eq_false z
      have z0 : n.st = 0 := by omega
      have kf := kind_fin ok z0
      have pe : plE n = n.e := by unfold plE; rw [if_neg z']
      have fe : (1 : Int) * 2 ^ (n.S.p - 1).toNat = n.S.fn := by
        rw [Int.one_mul]
        unfold Sh.fn
        congr 1
        omega
      walk_at "nm0"
      with_reducible refine i_seq ?_
      walk_at "nm0"
      rw [fe]
      with_reducible refine seq_jr (fun σ σ' => σ' = List.set σ 4 (some (.str (kindS n)))) (fun σ' H3 e3 s3 => ?_) (fun T tl => ?_)
      rotate_left
      · walk_at "nm0"
        refine i_ite (fun y => ?_) (fun y => ?_)
        · walk_at "nm0"
          rw [if_pos (of_decide_eq_true y)] at kf
          exact tl _ _ (by rw [kf]) stpS
        · walk_at "nm0"
          rw [if_neg (of_decide_eq_false y)] at kf
          refine i_ite (fun y => ?_) (fun y => ?_)
          · walk_at "nm0"
            rw [if_pos (of_decide_eq_true y)] at kf
            exact tl _ _ (by rw [kf]) stpS
          · walk_at "nm0"
            rw [if_neg (of_decide_eq_false y)] at kf
            exact tl _ _ (by rw [kf]) stpS
      subst e3
      clear kf
      walk_at "nm0"
      rename_i fo2 hfo2 fo hfo
      have mk : ∀ z : Str, z = markS n.s → z ++ (Str.empty ++ Str.ofString (toString n.m) ++ ("p" : String) ++ Str.ofString (toString n.e)) = strN n := fun z e => by rw [e]; exact strN_fin2 z0
      refine i_ite (fun y => ?_) (fun y => ?_)
      · have em : markS n.s = "-" := by unfold markS; rw [if_pos (of_decide_eq_true y)]
        walk_at "nm0"
        refine i_fmtI (log_small a1) ?_
        refine i_js (by rw [strLen_append]; omega) ?_
        walk_at "nm0"
        refine i_js (by rw [strLen_append, strLen_append]; omega) ?_
        walk_at "nm0"
        rw [pe]
        refine i_fmtI (log_small a2) ?_
        refine i_js (by rw [strLen_append, strLen_append, strLen_append]; omega) ?_
        walk_at "nm0"
        refine ⟨_, _, rfl, rfl, by rw [em] at ml; rw [strLen_append, strLen_append, strLen_append]; omega, ?_⟩
        rw [mk _ em.symm]
        walk_at "nm0"
        refine i_bornL rfl fun p2 G2 n2 s2 t2 => ?_
        walk_at "nm0"
        exact tl _ _ ⟨p2, _, _, _, rfl, stpS, hfo.ex inferInstance, t2⟩
      · have em : markS n.s = "" := by unfold markS; rw [if_neg (of_decide_eq_false y)]
        walk_at "nm0"
        refine i_fmtI (log_small a1) ?_
        refine i_js (by rw [strLen_append]; omega) ?_
        walk_at "nm0"
        refine i_js (by rw [strLen_append, strLen_append]; omega) ?_
        walk_at "nm0"
        rw [pe]
        refine i_fmtI (log_small a2) ?_
        refine i_js (by rw [strLen_append, strLen_append, strLen_append]; omega) ?_
        walk_at "nm0"
        refine ⟨_, _, rfl, rfl, by rw [em] at ml; rw [strLen_append, strLen_append, strLen_append]; omega, ?_⟩
        rw [mk _ em.symm]
        walk_at "nm0"
        refine i_bornL rfl fun p2 G2 n2 s2 t2 => ?_
        walk_at "nm0"
        exact tl _ _ ⟨p2, _, _, _, rfl, stpS, hfo.ex inferInstance, t2⟩
  obtain ⟨p, fo, v3, v4, rfl, s2, h3, h4⟩ := e2
  walk_at "nm"
  rename_i fo2 hfo2
  refine c_str hv ?_
  walk_at "nm"
  refine i_bornL rfl fun p2 G2 n2 s2' t2 => ?_
  walk_at "nm"
  have d1 : Dp K G2 (.ref p2) (isD n.S n.s (kindS n) (strN n)) := .lst (SqL.of t2) (.cons ((hfo2.ex (Ex.stp (H1 := H2))).tup.dp (.cons (.int _) (.cons (.int _) (.cons (.int _) .nil)))) (.cons (.int _) (.cons (.str _) (.cons (.str _) .nil))))
  have d2 : Dp K G2 (.ref p) (isD n.S n.s (kindS n) (strN n)) := .lst (SqL.of (s2'.s _ _ h4)) (.cons ((h3.ex (Ex.stp (H1 := H2))).tup.dp (.cons (.int _) (.cons (.int _) (.cons (.int _) .nil)))) (.cons (.int _) (.cons (.str _) (.cons (.str _) .nil))))
  refine ⟨p2, _, rfl, d1, shw.1, shw.2.1, shw.2.2.1, shw.2.2.2, ?_⟩
  walk_at "nm"
  refine ⟨p, _, rfl, d2, shw.1, shw.2.1, shw.2.2.1, shw.2.2.2, ?_⟩
  walk_at "nm"
  rw [decide_eq_true rfl]
  exact fin q
end
end K17

set_option Elab.async false
set_option linter.all false
set_option maxRecDepth 100000
set_option maxHeartbeats 4000000
namespace K17
open PySem PySem.Spec PyProof.Rows L2 Dw
local macro_rules | `(tactic| walk_at "nm") => `(tactic| repeat' (first
  | with_reducible refine i_seq ?_ | with_reducible refine i_asg ?_ | with_reducible refine i_ret ?_ | with_reducible refine i_drop ?_ | with_reducible refine i_ifS ?_ | with_reducible refine i_next ?_
  | with_reducible refine i_cons ?_ | with_reducible refine i_nil ?_ | with_reducible refine i_op ?_ | with_reducible refine i_un ?_ | with_reducible refine i_c ?_
  | with_reducible refine i_var ?_
  | with_reducible refine i_rI0 ?_ | with_reducible refine i_rU ?_
  | with_reducible refine i_rIa ?_
  | with_reducible refine i_test ?_ | with_reducible refine i_b ?_ | with_reducible refine i_bl ?_ | with_reducible refine i_if ?_ | with_reducible refine i_and ?_ | with_reducible refine i_or ?_ | with_reducible refine i_not ?_
  | with_reducible refine i_andV ?_ | with_reducible refine i_orV ?_ | with_reducible refine i_notV ?_ | with_reducible refine i_cb ?_ | with_reducible refine i_tup ?_ | with_reducible refine i_lst ?_ | with_reducible refine i_dget ?_
  | with_reducible refine i_gname ?_ | with_reducible refine i_chain ?_ | with_reducible refine i_eqI ?_ | with_reducible refine i_neI ?_ | with_reducible refine i_sl ?_ | with_reducible refine i_nopart ?_ | with_reducible refine i_part ?_ | with_reducible refine i_int ?_ | with_reducible refine i_par ?_ | with_reducible refine i_two ?_ | with_reducible refine i_strs ?_ | with_reducible refine i_isB ?_ | with_reducible refine i_isntB ?_ | with_reducible refine i_for ?_ | with_reducible refine i_itup ?_ | with_reducible refine i_ilist ?_ | with_reducible refine i_rng1 ?_
  | with_reducible refine i_fld ?_ | with_reducible refine f_sign (by assumption) (by assumption) ?_ | with_reducible refine f_m (by assumption) (by assumption) ?_ | with_reducible refine f_e (by assumption) (by assumption) ?_ | with_reducible refine f_state (by assumption) (by assumption) ?_
  | (with_reducible refine f_shape (by assumption) (by assumption) ?_; intro _ _)
  | with_reducible refine i_meth0 ?_ | with_reducible refine m_num (by assumption) ?_ | with_reducible refine i_call ?_ | with_reducible refine i_callP ?_ | with_reducible refine i_eqS ?_
  | with_reducible refine i_ixSh0 (by assumption) ?_ | with_reducible refine i_ixSh1 (by assumption) ?_ | with_reducible refine i_ixSh2 (by assumption) ?_ | with_reducible refine g_sh3 (by assumption) ?_ | with_reducible refine g_two (by assumption) ?_
  | with_reducible refine i_ixTup (by assumption) ?_
  | with_reducible refine i_fdB ?_ | with_reducible refine i_bm0 ?_ | with_reducible refine i_bits ?_ | with_reducible refine i_max ?_ | with_reducible refine i_min ?_ | with_reducible refine i_abs ?_ | with_reducible refine i_mul ?_ | with_reducible refine i_shl ?_
  | with_reducible refine c_shape (by assumption) ?_ | with_reducible refine c_shint (by assumption) ?_ | with_reducible refine c_nmint (by assumption) ?_ | with_reducible refine c_kind (by assumption) ?_ | with_reducible refine c_wantNum (by assumption) ?_ | with_reducible refine c_order ?_ | with_reducible refine c_whole ?_
  | (with_reducible refine c_shapeM (by assumption) ?_; intro _ _) | (with_reducible refine c_parts (by assumption) ?_; intro _ _ _ _) | (with_reducible refine c_value (by assumption) ?_; intro _ _ _ _) | (with_reducible refine c_rank (by assumption) ?_; intro _ _) | (with_reducible refine c_steps (by assumption) ?_; intro _ _)
  | (with_reducible refine c_word (by assumption) ?_; intro _ _) | (with_reducible refine c_nmnm (by assumption) ?_; intro _ _ _ _) | (with_reducible refine c_compare (by assumption) (by assumption) ?_; intro _ _) | (with_reducible refine c_moved (by assumption) ?_; intro _ _ _ _)
  | with_reducible refine c_eq (by assumption) (by assumption) ?_ | with_reducible refine c_ne (by assumption) (by assumption) ?_
  | with_reducible refine i_isNN ?_ | with_reducible refine i_isNI ?_ | with_reducible refine i_sfld ?_ | with_reducible refine i_make ?_ | with_reducible refine c_eqSh (by assumption) (by assumption) ?_ | with_reducible refine c_neSh (by assumption) (by assumption) ?_ | with_reducible refine c_ne2 (by assumption) (by assumption) ?_
  | with_reducible refine i_par3 ?_ | with_reducible refine i_three ?_ | with_reducible refine g_three (by assumption) ?_
  | with_reducible refine i_pl0 (by assumption) ?_ | (with_reducible refine i_pl1 (by assumption) ?_; intro _ _) | with_reducible refine i_pl2 (by assumption) ?_ | with_reducible refine i_pl3 (by assumption) ?_ | with_reducible refine i_pl4 (by assumption) ?_
  | with_reducible refine i_fmt ?_ | with_reducible refine i_jc ?_ | with_reducible refine i_jn ?_
  | (with_reducible refine c_cmpN (by assumption) (by assumption) ?_; intro _ _) | with_reducible refine c_rankP (by assumption) ?_))
local macro_rules | `(tactic| walk_at "nm0") => `(tactic| repeat' (first
  | with_reducible refine i_asg ?_ | with_reducible refine i_ret ?_ | with_reducible refine i_drop ?_ | with_reducible refine i_ifS ?_ | with_reducible refine i_next ?_
  | with_reducible refine i_cons ?_ | with_reducible refine i_nil ?_ | with_reducible refine i_op ?_ | with_reducible refine i_un ?_ | with_reducible refine i_c ?_
  | with_reducible refine i_var ?_
  | with_reducible refine i_rI0 ?_ | with_reducible refine i_rU ?_
  | with_reducible refine i_rIa ?_
  | with_reducible refine i_test ?_ | with_reducible refine i_b ?_ | with_reducible refine i_bl ?_ | with_reducible refine i_if ?_ | with_reducible refine i_and ?_ | with_reducible refine i_or ?_ | with_reducible refine i_not ?_
  | with_reducible refine i_andV ?_ | with_reducible refine i_orV ?_ | with_reducible refine i_notV ?_ | with_reducible refine i_cb ?_ | with_reducible refine i_tup ?_ | with_reducible refine i_lst ?_ | with_reducible refine i_dget ?_
  | with_reducible refine i_gname ?_ | with_reducible refine i_chain ?_ | with_reducible refine i_eqI ?_ | with_reducible refine i_neI ?_ | with_reducible refine i_sl ?_ | with_reducible refine i_nopart ?_ | with_reducible refine i_part ?_ | with_reducible refine i_int ?_ | with_reducible refine i_par ?_ | with_reducible refine i_two ?_ | with_reducible refine i_strs ?_ | with_reducible refine i_isB ?_ | with_reducible refine i_isntB ?_ | with_reducible refine i_for ?_ | with_reducible refine i_itup ?_ | with_reducible refine i_ilist ?_ | with_reducible refine i_rng1 ?_
  | with_reducible refine i_fld ?_ | with_reducible refine f_sign (by assumption) (by assumption) ?_ | with_reducible refine f_m (by assumption) (by assumption) ?_ | with_reducible refine f_e (by assumption) (by assumption) ?_ | with_reducible refine f_state (by assumption) (by assumption) ?_
  | (with_reducible refine f_shape (by assumption) (by assumption) ?_; intro _ _)
  | with_reducible refine i_meth0 ?_ | with_reducible refine m_num (by assumption) ?_ | with_reducible refine i_call ?_ | with_reducible refine i_callP ?_ | with_reducible refine i_eqS ?_
  | with_reducible refine i_ixSh0 (by assumption) ?_ | with_reducible refine i_ixSh1 (by assumption) ?_ | with_reducible refine i_ixSh2 (by assumption) ?_ | with_reducible refine g_sh3 (by assumption) ?_ | with_reducible refine g_two (by assumption) ?_
  | with_reducible refine i_ixTup (by assumption) ?_
  | with_reducible refine i_fdB ?_ | with_reducible refine i_bm0 ?_ | with_reducible refine i_bits ?_ | with_reducible refine i_max ?_ | with_reducible refine i_min ?_ | with_reducible refine i_abs ?_ | with_reducible refine i_mul ?_ | with_reducible refine i_shl ?_
  | with_reducible refine c_shape (by assumption) ?_ | with_reducible refine c_shint (by assumption) ?_ | with_reducible refine c_nmint (by assumption) ?_ | with_reducible refine c_kind (by assumption) ?_ | with_reducible refine c_wantNum (by assumption) ?_ | with_reducible refine c_order ?_ | with_reducible refine c_whole ?_
  | (with_reducible refine c_shapeM (by assumption) ?_; intro _ _) | (with_reducible refine c_parts (by assumption) ?_; intro _ _ _ _) | (with_reducible refine c_value (by assumption) ?_; intro _ _ _ _) | (with_reducible refine c_rank (by assumption) ?_; intro _ _) | (with_reducible refine c_steps (by assumption) ?_; intro _ _)
  | (with_reducible refine c_word (by assumption) ?_; intro _ _) | (with_reducible refine c_nmnm (by assumption) ?_; intro _ _ _ _) | (with_reducible refine c_compare (by assumption) (by assumption) ?_; intro _ _) | (with_reducible refine c_moved (by assumption) ?_; intro _ _ _ _)
  | with_reducible refine c_eq (by assumption) (by assumption) ?_ | with_reducible refine c_ne (by assumption) (by assumption) ?_
  | with_reducible refine i_isNN ?_ | with_reducible refine i_isNI ?_ | with_reducible refine i_sfld ?_ | with_reducible refine i_make ?_ | with_reducible refine c_eqSh (by assumption) (by assumption) ?_ | with_reducible refine c_neSh (by assumption) (by assumption) ?_ | with_reducible refine c_ne2 (by assumption) (by assumption) ?_
  | with_reducible refine i_par3 ?_ | with_reducible refine i_three ?_ | with_reducible refine g_three (by assumption) ?_
  | with_reducible refine i_pl0 (by assumption) ?_ | (with_reducible refine i_pl1 (by assumption) ?_; intro _ _) | with_reducible refine i_pl2 (by assumption) ?_ | with_reducible refine i_pl3 (by assumption) ?_ | with_reducible refine i_pl4 (by assumption) ?_
  | with_reducible refine i_fmt ?_ | with_reducible refine i_jc ?_ | with_reducible refine i_jn ?_
  | (with_reducible refine c_cmpN (by assumption) (by assumption) ?_; intro _ _) | with_reducible refine c_rankP (by assumption) ?_))
def PlsAt (K : PySem.W.Frag) (H : Hp) (v : V) (N : Nat) (f : Nat → Nm) : Prop := ∃ a xs, v = .ref a ∧ H a = some (.lst xs) ∧ xs.length = N ∧ ∀ i x, xs[i]? = some x → PlAt K H x (f i)
def NmsAt (K : PySem.W.Frag) (C : Addr) (H : Hp) (v : V) (N : Nat) (f : Nat → Nm) : Prop := ∃ a xs, v = .ref a ∧ H a = some (.lst xs) ∧ xs.length = N ∧ ∀ i x, xs[i]? = some x → NumAt K C H x (f i)
def many (S : Sh) : Nat := (2 * S.last).toNat + 1
section
variable {K : PySem.W.Frag} {C : Addr} {H H0 H1 H2 H3 H' : Hp} {Q : VK} {E : XK} {v u x w : V} {n n' b : Nm} {S : Sh}
theorem PlsAt.stp {N : Nat} {f : Nat → Nm} (h : PlsAt K H v N f) (s : Sm H H') : PlsAt K H' v N f := let ⟨a, xs, h1, h2, h3, h4⟩ := h; ⟨a, xs, h1, s.s _ _ h2, h3, fun i x e => (h4 i x e).ex ⟨fun b o _ e => s.s b o e⟩⟩
theorem NmsAt.stp {N : Nat} {f : Nat → Nm} (h : NmsAt K C H v N f) (s : Sm H H') : NmsAt K C H' v N f := let ⟨a, xs, h1, h2, h3, h4⟩ := h; ⟨a, xs, h1, s.s _ _ h2, h3, fun i x e => (h4 i x e).ex ⟨fun b o _ e => s.s b o e⟩⟩
def spWalk (K : PySem.W.Frag) (C : Addr) : Sp := spF (fun x : V × V × V × Sh => [x.1, x.2.1, x.2.2.1]) fun x H Q => ShAt K H x.1 x.2.2.2 ∧ Small x.2.2.2 ∧ PlsAt K H x.2.1 (many x.2.2.2) (fUp x.2.2.2) ∧ PlsAt K H x.2.2.1 (many x.2.2.2) (fDn x.2.2.2) ∧ ∀ H', Stp H H' → Q (.bl true) H'
def spMade (K : PySem.W.Frag) (C : Addr) : Sp := spF (fun x : V × Nm => [x.1]) fun x H Q => PlAt K H x.1 x.2 ∧ Small x.2.S ∧ ∀ H', Stp H H' → Q (.bl true) H'
def spVal (K : PySem.W.Frag) (C : Addr) : Sp := spF (fun x : V × Nm => [x.1]) fun x H Q => NumAt K C H x.1 x.2 ∧ x.2.st = 0 ∧ Small x.2.S ∧ ∀ H', Stp H H' → Q (.bl true) H'
theorem atI_m1 {xs : List V} {N : Nat} (h : xs.length = N + 1) : ∃ y, atI xs (-1) = some y ∧ xs[N]? = some y := by
  have hl : N < xs.length := by omega
  refine ⟨xs[N], ?_, List.getElem?_eq_getElem hl⟩
  have e : ixN xs.length (-1) = some N := by
    unfold ixN
    rw [if_neg (by decide), if_pos (by omega)]
    congr 1
    omega
  unfold atI
  rw [e]
  exact List.getElem?_eq_getElem hl
theorem up_S (h : S.Ok) (i : Nat) : (gUp S i).S = S := by
  have l4 := h.last4; have f2 := h.fn2
  unfold gUp fUp
  exact (plain_ok h (by omega) (by omega) (.inr rfl)).2.2.1
theorem dn_S (h : S.Ok) (i : Nat) : (gDn S i).S = S := by
  have l4 := h.last4; have f2 := h.fn2
  unfold gDn fDn
  exact (plain_ok h (by omega) (by omega) (.inl rfl)).2.2.1
theorem up_endf (h : S.Ok) : fUp S (2 * S.last).toNat = gDn S 0 := by
  rw [← up_end h]
  unfold gUp
  rw [Nat.min_eq_right (by omega)]
theorem dn_endf (h : S.Ok) : fDn S (2 * S.last).toNat = gDn S (many S) := by
  unfold gDn many
  rw [Nat.min_eq_right (by omega)]
end
abbrev st_l_walk_right : Stmt := top 43
theorem sc_l_walk_right : FnScope ["_law_form", "_law_found", "_law_back", "_law_number", "_law_plain"] ["_law_form", "_law_found", "_law_back"] (defScope st_l_walk_right) := ⟨rfl, rfl, rfl, by decide +kernel, rfl, by decide +kernel, by decide +kernel⟩
abbrev st_l_made_right : Stmt := top 44
theorem sc_l_made_right : FnScope ["_law_plain", "_law_form", "_law_side", "_law_number", "_law_bits", "_law_scale", "_law_place"] ["_law_plain"] (defScope st_l_made_right) := ⟨rfl, rfl, rfl, by decide +kernel, rfl, by decide +kernel, by decide +kernel⟩
abbrev st_l_value_right : Stmt := top 45
theorem sc_l_value_right : FnScope ["_law_number", "_law_over", "_law_under", "_law_bits", "_law_scale", "_law_k", "_law_first", "_law_last"] ["_law_number"] (defScope st_l_value_right) := ⟨rfl, rfl, rfl, by decide +kernel, rfl, by decide +kernel, by decide +kernel⟩
section
variable {P : Program} {w : World} {K : PySem.W.Frag} {mg : Str → Option Value} {base : Heap} {C : Addr}
theorem ok_l_walk_right {f : Addr} {fd : FuncData} (F : Fun K "_law_walk_right" "_law_walk_right" st_l_walk_right f fd) (C__law_is : Cal P w K mg base 4 "_law_is" ["_law_number", "_law_plain"] (spIs K C)) (T : NumC K C) (O_down : CalO P w K mg base 10 C "down" ["self"] (spNmNm K C fun n => Dw.movedN n (-1))) (O_up : CalO P w K mg base 10 C "up" ["self"] (spNmNm K C fun n => Dw.movedN n 1)) (K_infinite_1_sign : CalK P w K mg base 6 "infinite" ["shape", "sign"] ["sign"] gV_infinite_1_sign (spInf K C)) :
    FnOk P w K mg base CX0 11 f fd ["_law_form", "_law_found", "_law_back"] (spWalk K C) := by
  refine F.okW sc_l_walk_right (spF.len fun _ => rfl) (fun cdv A outer s H vs Q E hr h => ?_)
  refine (?_ : ∃ t, Wr (PSs _ _ t) ∧ t _ _ _)
  obtain ⟨⟨v, u, x, S⟩, rfl, hs, sm, ⟨a, xs, e1, ha, la, fa⟩, ⟨b, ys, e2, hb, lb, fb⟩, q⟩ := h
  simp only at *
  subst e1 e2
  have sh := hs.1
  have l4 := sh.last4; have f2 := sh.fn2
  refine ⟨_, (wss_cons (ws_set (i := 3) sc_l_walk_right.nd rfl (Or.inl rfl) (we_calP K_infinite_1_sign (hr.mono (by decide)) (by rfl) (wa_cons (wv 0) wa_nil) (wk_cons we_int wk_nil)))
        (wss_cons (ws_for rfl (wi_list (wv 1)) (wg_name (i := 4) sc_l_walk_right.nd rfl (Or.inl rfl)) (wss_cons (ws_if (wt_not (wt_val (we_cal C__law_is (hr.mono (by decide)) (by rfl) (wa_cons (wv 3) (wa_cons (wv 4) wa_nil))))) (wss_one (ws_ret we_bl)) wss_nil)
        (wss_one (ws_set (i := 3) sc_l_walk_right.nd rfl (Or.inl rfl) (we_meth0 O_up (hr.mono (by decide)) (wv 3))))))
        (wss_cons (ws_if (wt_not (wt_val (we_cal C__law_is (hr.mono (by decide)) (by rfl) (wa_cons (wv 3) (wa_cons (we_ix ix_list (wv 1) (we_un un_neg we_int) (fun _ _ => rfl)) wa_nil))))) (wss_one (ws_ret we_bl)) wss_nil)
        (wss_cons (ws_for rfl (wi_list (wv 2)) (wg_name (i := 4) sc_l_walk_right.nd rfl (Or.inl rfl)) (wss_cons (ws_if (wt_not (wt_val (we_cal C__law_is (hr.mono (by decide)) (by rfl) (wa_cons (wv 3) (wa_cons (wv 4) wa_nil))))) (wss_one (ws_ret we_bl)) wss_nil)
        (wss_one (ws_set (i := 3) sc_l_walk_right.nd rfl (Or.inl rfl) (we_meth0 O_down (hr.mono (by decide)) (wv 3))))))
        (wss_one (ws_ret (we_cal C__law_is (hr.mono (by decide)) (by rfl) (wa_cons (wv 3) (wa_cons (we_ix ix_list (wv 2) (we_un un_neg we_int) (fun _ _ => rfl)) wa_nil))))))))), ?_⟩
  (try simp only [cx_K, cx_K2])
  walk_at "nm"
  dsimp only [gV_infinite_1_sign]
  refine c_inf hs (fun w H1 s1 m1 => ?_)
  rw [← up_first sh] at m1
  walk_at "nm"
  refine ⟨a, rfl, ⟨xs, SqL.of (s1.s _ _ ha)⟩, for_list (K := K) (a := a) (xs := xs) (fun i σ H2 => ∃ w v4, σ = [some v, some (.ref a), some (.ref b), some w, v4] ∧ Stp H H2 ∧ NumAt K C H2 w (gUp S i)) ⟨_, _, rfl, stpS, m1⟩ (fun i σ H2 _ ⟨_, _, _, s2, _⟩ => SqL.of (s2.s _ _ ha)) ?_ ?_⟩
  · rintro i x σ H2 hx ⟨w, v4, rfl, s2, m2⟩
    have hi := (List.getElem?_eq_some_iff.mp hx).1
    unfold many at la
    have p2 := fa i x hx
    rw [← up_in sh (by omega)] at p2
    walk_at "nm"
    refine c_is m2 p2 (by rw [up_S sh]; exact sm) (fun H3 s3 => ?_)
    walk_at "nm"
    refine ifF' rfl ?_
    walk_at "nm"
    exact ⟨_, _, rfl, stpS, by rw [← up_next sh i]; assumption⟩
  rintro σ H2 ⟨w, v4, rfl, s2, m2⟩
  unfold many at la
  rw [la, up_end sh] at m2
  obtain ⟨y, ay, hy⟩ := atI_m1 la
  have p2 := fa _ y hy
  rw [up_endf sh] at p2
  walk_at "nm"
  refine i_ixL (s2.s _ _ ha) ay ?_
  walk_at "nm"
  refine c_is m2 p2 (by rw [dn_S sh]; exact sm) (fun H3 s3 => ?_)
  walk_at "nm"
  refine ifF' rfl ?_
  walk_at "nm"
  refine ⟨b, rfl, ⟨ys, SqL.of (s3.s _ _ (s2.s _ _ hb))⟩, for_list (K := K) (a := b) (xs := ys) (fun i σ H4 => ∃ w v4, σ = [some v, some (.ref a), some (.ref b), some w, v4] ∧ Stp H H4 ∧ NumAt K C H4 w (gDn S i)) ⟨_, _, rfl, stpS, m2.ex inferInstance⟩ (fun i σ H2 _ ⟨_, _, _, s2, _⟩ => SqL.of (s2.s _ _ hb)) ?_ ?_⟩
  · rintro i x σ H4 hx ⟨w, v4, rfl, s4, m4⟩
    have hi := (List.getElem?_eq_some_iff.mp hx).1
    unfold many at lb
    have p4 := fb i x hx
    rw [← dn_in sh (by omega)] at p4
    walk_at "nm"
    refine c_is m4 p4 (by rw [dn_S sh]; exact sm) (fun H5 s5 => ?_)
    walk_at "nm"
    refine ifF' rfl ?_
    walk_at "nm"
    exact ⟨_, _, rfl, stpS, by rw [← dn_next sh i]; assumption⟩
  rintro σ H4 ⟨w, v4, rfl, s4, m4⟩
  obtain ⟨y', ay', hy'⟩ := atI_m1 lb
  have p4 := fb _ y' hy'
  rw [dn_endf sh, ← lb] at p4
  walk_at "nm"
  refine i_ixL (s4.s _ _ hb) ay' ?_
  walk_at "nm"
  refine c_is m4 p4 (by rw [dn_S sh]; exact sm) (fun H5 s5 => ?_)
  exact fin q
theorem ok_l_made_right {f : Addr} {fd : FuncData} (F : Fun K "_law_made_right" "_law_made_right" st_l_made_right f fd) (T : NumC K C) (O_word : CalO P w K mg base 4 C "word" ["self"] (spWord K C)) (K_nan_1 : CalK P w K mg base 6 "nan" ["shape"] [] gV_nan_1 (spNan K C)) (E_Number : CalE P w K mg base 1 C ["self", "other"] (spEq K C)) (C_compare : Cal P w K mg base 4 "compare" ["one", "other"] (spCompareN K C)) (K_by_rank_2 : CalK P w K mg base 8 "by_rank" ["rank", "shape"] [] gV_by_rank_2 (spByRank K C)) (M_Number_1 : CalM P w K mg base 4 "Number" C ["self", "shape", "sign", "significand", "exponent"] [] gV_Number_init_2 (spInit K C)) (O_negated : CalO P w K mg base 7 C "negated" ["self"] (spNmNm K C Dw.negN)) (K_by_word_2 : CalK P w K mg base 8 "by_word" ["word", "shape"] [] gV_by_word_2 (spByWord K C)) (O_rank : CalO P w K mg base 4 C "rank" ["self"] (spRank K C)) (C__law_rank : Cal P w K mg base 2 "_law_rank" ["_law_plain"] (spRankP K)) (K_infinite_1_sign : CalK P w K mg base 6 "infinite" ["shape", "sign"] ["sign"] gV_infinite_1_sign (spInf K C)) (C__law_is : Cal P w K mg base 4 "_law_is" ["_law_number", "_law_plain"] (spIs K C)) (M_Number_1_exponent_significand_sign : CalM P w K mg base 4 "Number" C ["self", "shape", "sign", "significand", "exponent"] ["exponent", "significand", "sign"] gV_Number_init_2_exponent_significand_sign (spInit K C)) (O_sign : CalO P w K mg base 1 C "sign" ["self"] (spNmInt K C Dw.Nm.s)) (O_parts : CalO P w K mg base 1 C "parts" ["self"] (spParts K C)) (M_Number_1_sign_significand_exponent : CalM P w K mg base 4 "Number" C ["self", "shape", "sign", "significand", "exponent"] ["sign", "significand", "exponent"] gV_Number_init_2_sign_significand_exponent (spInit K C)) :
    FnOk P w K mg base CX0 9 f fd ["_law_plain"] (spMade K C) := by
  refine F.okW sc_l_made_right (spF.len fun _ => rfl) (fun cdv A outer s H vs Q E hr h => ?_)
  refine (?_ : ∃ t, Wr (PSs _ _ t) ∧ t _ _ _)
  obtain ⟨⟨v, n⟩, rfl, hv, sm, q⟩ := h
  simp only at *
  have ok := hv.1
  have h2 := hv.2.1
  have sh := ok.sh
  have st := ok.st2
  obtain ⟨w1, w2, w3⟩ := word_in1 ok h2
  have wb := word_back1 ok h2
  have wn := word_nan ok h2
  obtain ⟨_, rk1, rk2⟩ := rank_abs ok h2
  have nz : n ≠ n.S.nan := fun z => h2 (by rw [z]; rfl)
  refine ⟨_, (wss_cons (ws_par (i := 1) (j := 2) (by rfl) sc_l_made_right.nd rfl rfl (by decide) rfl rfl (wa_cons (we_ix ix_tup (wv 0) we_int (fun _ _ => rfl)) (wa_cons (we_ix ix_tup (wv 0) we_int (fun _ _ => rfl)) wa_nil)) (by rfl))
        (wss_cons (ws_if (wt_cmpR op_eq (we_ix ix_tup (wv 0) we_int (fun _ _ => rfl)) we_str (nomark _)) (wss_one (ws_set (i := 3) sc_l_made_right.nd rfl (Or.inl rfl) (we_calP K_infinite_1_sign (hr.mono (by decide)) (by rfl) (wa_cons (wv 1) wa_nil) (wk_cons (wv 2) wk_nil)))) (wss_cons (ws_set (i := 3) sc_l_made_right.nd rfl (Or.inl rfl) (we_makeK M_Number_1_sign_significand_exponent (hr.mono (by decide)) (by rfl) (wa_cons (wv 1) wa_nil) (wk_cons (wv 2) (wk_cons (we_ix ix_tup (wv 0) we_int (fun _ _ => rfl)) (wk_cons (we_ix ix_tup (wv 0) we_int (fun _ _ => rfl)) wk_nil)))))
        (wss_cons (ws_asg (we_meth0 O_parts (hr.mono (by decide)) (wv 3)) (wg_tup (n := 2) (by rfl) (wgs_cons (wg_name (i := 4) sc_l_made_right.nd rfl (Or.inl rfl)) (wgs_cons (wg_name (i := 5) sc_l_made_right.nd rfl (Or.inl rfl)) wgs_nil))))
        (wss_one (ws_if (wt_not (wt_val (we_cal C__law_is (hr.mono (by decide)) (by rfl) (wa_cons (we_makeK M_Number_1_exponent_significand_sign (hr.mono (by decide)) (by rfl) (wa_cons (wv 1) wa_nil) (wk_cons (wv 5) (wk_cons (wv 4) (wk_cons (we_meth0 O_sign (hr.mono (by decide)) (wv 3)) wk_nil)))) (wa_cons (wv 0) wa_nil))))) (wss_one (ws_ret we_bl)) wss_nil)))))
        (wss_cons (ws_set (i := 6) sc_l_made_right.nd rfl (Or.inl rfl) (we_cal C__law_rank (hr.mono (by decide)) (by rfl) (wa_cons (wv 0) wa_nil)))
        (wss_cons (ws_if (ww_pt (ww_or (wt_cmpR op_ne (we_meth0 O_rank (hr.mono (by decide)) (wv 3)) (wv 6) (nomark _)) (ww_or (wt_cmpR (op_neO E_Number (hr.mono (by decide))) (we_calD K_by_word_2 (hr.mono (by decide)) (by rfl) (wa_cons (we_meth0 O_word (hr.mono (by decide)) (wv 3)) (wa_cons (wv 1) wa_nil))) (wv 3) (nomark _)) (ww_or1 (wt_cmpR (op_neO E_Number (hr.mono (by decide))) (we_meth0 O_negated (hr.mono (by decide)) (we_meth0 O_negated (hr.mono (by decide)) (wv 3))) (wv 3) (nomark _)))))) (wss_one (ws_ret we_bl)) wss_nil)
        (wss_cons (ws_if (wt_cmpR (op_neO E_Number (hr.mono (by decide))) (we_calD K_by_rank_2 (hr.mono (by decide)) (by rfl) (wa_cons (wv 6) (wa_cons (wv 1) wa_nil))) (we_ifExp (wt_cmpR op_ne (wv 6) we_int (nomark _)) (wv 3) (we_makeD M_Number_1 (hr.mono (by decide)) (by rfl) (wa_cons (wv 1) wa_nil))) (nomark _)) (wss_one (ws_ret we_bl)) wss_nil)
        (wss_one (ws_ret (we_and (we_cmpR op_isNM (we_cal C_compare (hr.mono (by decide)) (by rfl) (wa_cons (wv 3) (wa_cons (we_calD K_nan_1 (hr.mono (by decide)) (by rfl) (wa_cons (wv 1) wa_nil)) wa_nil))) we_non (nomark _)) (we_and (we_cmpR (op_neO E_Number (hr.mono (by decide))) (wv 3) (we_calD K_nan_1 (hr.mono (by decide)) (by rfl) (wa_cons (wv 1) wa_nil)) (nomark _)) (we_one (we_cmpR op_ne (we_meth0 O_word (hr.mono (by decide)) (wv 3)) (we_meth0 O_word (hr.mono (by decide)) (we_calD K_nan_1 (hr.mono (by decide)) (by rfl) (wa_cons (wv 1) wa_nil))) (nomark _)))))))))))), ?_⟩
  (try simp only [cx_K, cx_K2])
  walk_at "nm0"
  with_reducible refine i_seq ?_
  walk_at "nm0"
  rename_i fo hfo
  with_reducible refine seq_jh (fun _ H σ' H' => ∃ w v4 v5, σ' = [some v, some fo, some (.int n.s), some w, v4, v5, none] ∧ Stp H H' ∧ NumAt K C H' w n) (fun σ' H2 e2 => ?_) (fun T tl => ?_)
  rotate_left
  · walk_at "nm0"
    rw [stS_inf st]
    refine i_ite (fun z => ?_) (fun z => ?_)
    · have z' := of_decide_eq_true z
      walk_at "nm0"
      dsimp only [gV_infinite_1_sign]
      refine c_inf hfo (fun w H1 s1 m1 => ?_) ok.s01
      rw [← inf_of ok z'] at m1
      walk_at "nm0"
      exact tl _ _ ⟨w, _, _, rfl, stpS, m1⟩
    · have z' := of_decide_eq_false z
      have z0 : n.st = 0 := by omega
      have pe : plE n = n.e := by unfold plE; rw [if_neg z']
      walk_at "nm0"
      with_reducible refine i_seq ?_
      walk_at "nm0"
      rw [pe]
      refine c_new (n := n) (bb := false) hfo ok z0 (fun z => nomatch z) fun w H1 s1 m1 => ?_
      walk_at "nm0"
      with_reducible refine i_seq ?_
      walk_at "nm0"
      refine c_new (n := n) (bb := false) hfo ok z0 (fun z => nomatch z) fun w3 H3 s3 m3 => ?_
      walk_at "nm0"
      refine c_is m3 hv sm (fun H4 s4 => ?_)
      walk_at "nm0"
      refine ifF' rfl ?_
      walk_at "nm0"
      exact tl _ _ ⟨w, _, _, rfl, stpS, m1.ex inferInstance⟩
  obtain ⟨w, v4, v5, rfl, s2, m2⟩ := e2
  walk_at "nm"
  refine ifF' (nd rfl) ?_
  walk_at "nm"
  dsimp only [gV_by_word_2]
  refine c_byWord hfo w1 w2 w3 fun y1 H3 s3 m3 => ?_
  rw [wb] at m3
  walk_at "nm"
  refine ifF' (by simp) ?_
  walk_at "nm"
  refine ifF' (by rw [neg_neg]; simp) ?_
  walk_at "nm"
  dsimp only [gV_by_rank_2]
  refine c_byRank hfo rk1 rk2 fun y4 H4 s4 m4 => ?_
  walk_at "nm"
  refine i_ite ?za ?zb
  case' za =>
    intro z
    have z' : n.rank ≠ 0 := by simpa using z
    rw [rank_back ok h2 z'] at m4
    walk_at "nm"
    refine ifF' (by simp) ?_
  case' zb =>
    intro z
    have z' : n.rank = 0 := by simpa using z
    rw [z', rank0 sh] at m4
    walk_at "nm"
    refine c_new (n := n.S.zero 0) (bb := true) hfo (sh.zeroOk (.inl rfl)) rfl (fun _ => rfl) fun y5 H5 s5 m5 => ?_
    walk_at "nm"
    refine ifF' (by simp) ?_
  all_goals
    walk_at "nm"
    dsimp only [gV_nan_1]
    refine c_nan hfo fun y6 H6 s6 m6 => ?_
    walk_at "nm"
    refine c_cmpO m2 m6 (fun H7 s7 => ?_) rfl
    walk_at "nm"
    refine ifT' rfl ?_
    walk_at "nm"
    dsimp only [gV_nan_1]
    refine c_nan hfo fun y8 H8 s8 m8 => ?_
    walk_at "nm"
    refine ifT' (by simp [nz]) ?_
    walk_at "nm"
    dsimp only [gV_nan_1]
    refine c_nan hfo fun y9 H9 s9 m9 => ?_
    walk_at "nm"
    rw [decide_eq_false wn]
    exact fin q
end
end K17

set_option Elab.async false
set_option linter.all false
set_option maxRecDepth 100000
set_option maxHeartbeats 4000000
namespace K17
open PySem PySem.Spec PyProof.Rows L2 Dw
local macro_rules | `(tactic| walk_at "nm") => `(tactic| repeat' (first
  | with_reducible refine i_seq ?_ | with_reducible refine i_asg ?_ | with_reducible refine i_ret ?_ | with_reducible refine i_drop ?_ | with_reducible refine i_ifS ?_ | with_reducible refine i_next ?_
  | with_reducible refine i_cons ?_ | with_reducible refine i_nil ?_ | with_reducible refine i_op ?_ | with_reducible refine i_un ?_ | with_reducible refine i_c ?_
  | with_reducible refine i_var ?_
  | with_reducible refine i_rI0 ?_ | with_reducible refine i_rU ?_
  | with_reducible refine i_rIa ?_
  | with_reducible refine i_test ?_ | with_reducible refine i_b ?_ | with_reducible refine i_bl ?_ | with_reducible refine i_if ?_ | with_reducible refine i_and ?_ | with_reducible refine i_or ?_ | with_reducible refine i_not ?_
  | with_reducible refine i_andV ?_ | with_reducible refine i_orV ?_ | with_reducible refine i_notV ?_ | with_reducible refine i_cb ?_ | with_reducible refine i_tup ?_ | with_reducible refine i_lst ?_ | with_reducible refine i_dget ?_
  | with_reducible refine i_gname ?_ | with_reducible refine i_chain ?_ | with_reducible refine i_eqI ?_ | with_reducible refine i_neI ?_ | with_reducible refine i_sl ?_ | with_reducible refine i_nopart ?_ | with_reducible refine i_part ?_ | with_reducible refine i_int ?_ | with_reducible refine i_par ?_ | with_reducible refine i_two ?_ | with_reducible refine i_strs ?_ | with_reducible refine i_isB ?_ | with_reducible refine i_isntB ?_ | with_reducible refine i_for ?_ | with_reducible refine i_itup ?_ | with_reducible refine i_ilist ?_ | with_reducible refine i_rng1 ?_
  | with_reducible refine i_fld ?_ | with_reducible refine f_sign (by assumption) (by assumption) ?_ | with_reducible refine f_m (by assumption) (by assumption) ?_ | with_reducible refine f_e (by assumption) (by assumption) ?_ | with_reducible refine f_state (by assumption) (by assumption) ?_
  | (with_reducible refine f_shape (by assumption) (by assumption) ?_; intro _ _)
  | with_reducible refine i_meth0 ?_ | with_reducible refine m_num (by assumption) ?_ | with_reducible refine i_call ?_ | with_reducible refine i_callP ?_ | with_reducible refine i_eqS ?_
  | with_reducible refine i_ixSh0 (by assumption) ?_ | with_reducible refine i_ixSh1 (by assumption) ?_ | with_reducible refine i_ixSh2 (by assumption) ?_ | with_reducible refine g_sh3 (by assumption) ?_ | with_reducible refine g_two (by assumption) ?_
  | with_reducible refine i_ixTup (by assumption) ?_
  | with_reducible refine i_fdB ?_ | with_reducible refine i_bm0 ?_ | with_reducible refine i_bits ?_ | with_reducible refine i_max ?_ | with_reducible refine i_min ?_ | with_reducible refine i_abs ?_ | with_reducible refine i_mul ?_ | with_reducible refine i_shl ?_
  | with_reducible refine c_shape (by assumption) ?_ | with_reducible refine c_shint (by assumption) ?_ | with_reducible refine c_nmint (by assumption) ?_ | with_reducible refine c_kind (by assumption) ?_ | with_reducible refine c_wantNum (by assumption) ?_ | with_reducible refine c_order ?_ | with_reducible refine c_whole ?_
  | (with_reducible refine c_shapeM (by assumption) ?_; intro _ _) | (with_reducible refine c_parts (by assumption) ?_; intro _ _ _ _) | (with_reducible refine c_value (by assumption) ?_; intro _ _ _ _) | (with_reducible refine c_rank (by assumption) ?_; intro _ _) | (with_reducible refine c_steps (by assumption) ?_; intro _ _)
  | (with_reducible refine c_word (by assumption) ?_; intro _ _) | (with_reducible refine c_nmnm (by assumption) ?_; intro _ _ _ _) | (with_reducible refine c_compare (by assumption) (by assumption) ?_; intro _ _) | (with_reducible refine c_moved (by assumption) ?_; intro _ _ _ _)
  | with_reducible refine c_eq (by assumption) (by assumption) ?_ | with_reducible refine c_ne (by assumption) (by assumption) ?_
  | with_reducible refine i_isNN ?_ | with_reducible refine i_isNI ?_ | with_reducible refine i_sfld ?_ | with_reducible refine i_make ?_ | with_reducible refine c_eqSh (by assumption) (by assumption) ?_ | with_reducible refine c_neSh (by assumption) (by assumption) ?_ | with_reducible refine c_ne2 (by assumption) (by assumption) ?_
  | with_reducible refine i_par3 ?_ | with_reducible refine i_three ?_ | with_reducible refine g_three (by assumption) ?_
  | with_reducible refine i_pl0 (by assumption) ?_ | (with_reducible refine i_pl1 (by assumption) ?_; intro _ _) | with_reducible refine i_pl2 (by assumption) ?_ | with_reducible refine i_pl3 (by assumption) ?_ | with_reducible refine i_pl4 (by assumption) ?_
  | with_reducible refine i_fmt ?_ | with_reducible refine i_jc ?_ | with_reducible refine i_jn ?_
  | (with_reducible refine c_cmpN (by assumption) (by assumption) ?_; intro _ _) | with_reducible refine c_rankP (by assumption) ?_))
local macro_rules | `(tactic| walk_at "nm0") => `(tactic| repeat' (first
  | with_reducible refine i_asg ?_ | with_reducible refine i_ret ?_ | with_reducible refine i_drop ?_ | with_reducible refine i_ifS ?_ | with_reducible refine i_next ?_
  | with_reducible refine i_cons ?_ | with_reducible refine i_nil ?_ | with_reducible refine i_op ?_ | with_reducible refine i_un ?_ | with_reducible refine i_c ?_
  | with_reducible refine i_var ?_
  | with_reducible refine i_rI0 ?_ | with_reducible refine i_rU ?_
  | with_reducible refine i_rIa ?_
  | with_reducible refine i_test ?_ | with_reducible refine i_b ?_ | with_reducible refine i_bl ?_ | with_reducible refine i_if ?_ | with_reducible refine i_and ?_ | with_reducible refine i_or ?_ | with_reducible refine i_not ?_
  | with_reducible refine i_andV ?_ | with_reducible refine i_orV ?_ | with_reducible refine i_notV ?_ | with_reducible refine i_cb ?_ | with_reducible refine i_tup ?_ | with_reducible refine i_lst ?_ | with_reducible refine i_dget ?_
  | with_reducible refine i_gname ?_ | with_reducible refine i_chain ?_ | with_reducible refine i_eqI ?_ | with_reducible refine i_neI ?_ | with_reducible refine i_sl ?_ | with_reducible refine i_nopart ?_ | with_reducible refine i_part ?_ | with_reducible refine i_int ?_ | with_reducible refine i_par ?_ | with_reducible refine i_two ?_ | with_reducible refine i_strs ?_ | with_reducible refine i_isB ?_ | with_reducible refine i_isntB ?_ | with_reducible refine i_for ?_ | with_reducible refine i_itup ?_ | with_reducible refine i_ilist ?_ | with_reducible refine i_rng1 ?_
  | with_reducible refine i_fld ?_ | with_reducible refine f_sign (by assumption) (by assumption) ?_ | with_reducible refine f_m (by assumption) (by assumption) ?_ | with_reducible refine f_e (by assumption) (by assumption) ?_ | with_reducible refine f_state (by assumption) (by assumption) ?_
  | (with_reducible refine f_shape (by assumption) (by assumption) ?_; intro _ _)
  | with_reducible refine i_meth0 ?_ | with_reducible refine m_num (by assumption) ?_ | with_reducible refine i_call ?_ | with_reducible refine i_callP ?_ | with_reducible refine i_eqS ?_
  | with_reducible refine i_ixSh0 (by assumption) ?_ | with_reducible refine i_ixSh1 (by assumption) ?_ | with_reducible refine i_ixSh2 (by assumption) ?_ | with_reducible refine g_sh3 (by assumption) ?_ | with_reducible refine g_two (by assumption) ?_
  | with_reducible refine i_ixTup (by assumption) ?_
  | with_reducible refine i_fdB ?_ | with_reducible refine i_bm0 ?_ | with_reducible refine i_bits ?_ | with_reducible refine i_max ?_ | with_reducible refine i_min ?_ | with_reducible refine i_abs ?_ | with_reducible refine i_mul ?_ | with_reducible refine i_shl ?_
  | with_reducible refine c_shape (by assumption) ?_ | with_reducible refine c_shint (by assumption) ?_ | with_reducible refine c_nmint (by assumption) ?_ | with_reducible refine c_kind (by assumption) ?_ | with_reducible refine c_wantNum (by assumption) ?_ | with_reducible refine c_order ?_ | with_reducible refine c_whole ?_
  | (with_reducible refine c_shapeM (by assumption) ?_; intro _ _) | (with_reducible refine c_parts (by assumption) ?_; intro _ _ _ _) | (with_reducible refine c_value (by assumption) ?_; intro _ _ _ _) | (with_reducible refine c_rank (by assumption) ?_; intro _ _) | (with_reducible refine c_steps (by assumption) ?_; intro _ _)
  | (with_reducible refine c_word (by assumption) ?_; intro _ _) | (with_reducible refine c_nmnm (by assumption) ?_; intro _ _ _ _) | (with_reducible refine c_compare (by assumption) (by assumption) ?_; intro _ _) | (with_reducible refine c_moved (by assumption) ?_; intro _ _ _ _)
  | with_reducible refine c_eq (by assumption) (by assumption) ?_ | with_reducible refine c_ne (by assumption) (by assumption) ?_
  | with_reducible refine i_isNN ?_ | with_reducible refine i_isNI ?_ | with_reducible refine i_sfld ?_ | with_reducible refine i_make ?_ | with_reducible refine c_eqSh (by assumption) (by assumption) ?_ | with_reducible refine c_neSh (by assumption) (by assumption) ?_ | with_reducible refine c_ne2 (by assumption) (by assumption) ?_
  | with_reducible refine i_par3 ?_ | with_reducible refine i_three ?_ | with_reducible refine g_three (by assumption) ?_
  | with_reducible refine i_pl0 (by assumption) ?_ | (with_reducible refine i_pl1 (by assumption) ?_; intro _ _) | with_reducible refine i_pl2 (by assumption) ?_ | with_reducible refine i_pl3 (by assumption) ?_ | with_reducible refine i_pl4 (by assumption) ?_
  | with_reducible refine i_fmt ?_ | with_reducible refine i_jc ?_ | with_reducible refine i_jn ?_
  | (with_reducible refine c_cmpN (by assumption) (by assumption) ?_; intro _ _) | with_reducible refine c_rankP (by assumption) ?_))
section
variable {P : Program} {w : World} {K : PySem.W.Frag} {mg : Str → Option Value} {base : Heap} {C : Addr}
theorem max_small {g : Int} (h0 : -1100 ≤ g) (h1 : g ≤ 1000) : 0 ≤ maxI 0 g ∧ maxI 0 g ≤ 1000 ∧ 0 ≤ maxI 0 (0 - g) ∧ maxI 0 (0 - g) ≤ 1100 := by
  unfold maxI
  split <;> split <;> omega
theorem bits_p {k : Int} (h0 : 0 ≤ k) (h1 : k ≤ 1100) : Builtin.Int.intBits ((1 : Int) * 2 ^ k.toNat) ≤ 1101 := by
  have := bits_pow2 k.toNat
  omega
theorem mul_ok_gap {a b : Nm} (ha : a.Ok) (hb : b.Ok) {k : Int} (h0 : 0 ≤ k) (h1 : k ≤ 1100) : IntMulOk (a.num * b.den - b.num * a.den) (1 * 2 ^ k.toNat) := IntMulOk.of_le (bits_diff ha hb) (bits_p h0 h1) (by decide)
theorem mul_ok_den {a : Nm} (ha : a.Ok) {k : Int} (h0 : 0 ≤ k) (h1 : k ≤ 1100) : IntMulOk (1 * 2 ^ k.toNat) a.den := IntMulOk.of_le (bits_p h0 h1) (bits2 (den_bits ha)) (by decide)
theorem mul_ok_den2 {a b : Nm} (ha : a.Ok) (hb : b.Ok) {k : Int} (h0 : 0 ≤ k) (h1 : k ≤ 1100) : IntMulOk (1 * 2 ^ k.toNat * a.den) b.den := IntMulOk.of_le (intBits_mul_le (bits_p h0 h1) (bits2 (den_bits ha))) (bits2 (den_bits hb)) (by decide)
theorem mul_ok_num {a : Nm} (ha : a.Ok) {k : Int} (h0 : 0 ≤ k) (h1 : k ≤ 1100) : IntMulOk a.num (1 * 2 ^ k.toNat) := IntMulOk.of_le (bits2 (num_bits ha)) (bits_p h0 h1) (by decide)
theorem mul_ok_sx {a : Nm} (ha : a.Ok) {k : Int} (h0 : 0 ≤ k) (h1 : k ≤ 1100) : IntMulOk a.sx (1 * 2 ^ k.toNat) := IntMulOk.of_le (bits2 (sx_bits ha)) (bits_p h0 h1) (by decide)
theorem mul_ok_sx2 {a : Nm} (ha : a.Ok) {k : Int} (h0 : 0 ≤ k) (h1 : k ≤ 1100) : IntMulOk (a.sx * (1 * 2 ^ k.toNat)) a.den := IntMulOk.of_le (intBits_mul_le (bits2 (sx_bits ha)) (bits_p h0 h1)) (bits2 (den_bits ha)) (by decide)
theorem ok_l_value_right {f : Addr} {fd : FuncData} (F : Fun K "_law_value_right" "_law_value_right" st_l_value_right f fd) (nb_max : mg "max" = none) (T : NumC K C) (O_value : CalO P w K mg base 2 C "value" ["self"] (spValue K C)) (O_up : CalO P w K mg base 10 C "up" ["self"] (spNmNm K C fun n => Dw.movedN n 1)) (O_kind : CalO P w K mg base 2 C "kind" ["self"] (spKind K C)) (O_sign : CalO P w K mg base 1 C "sign" ["self"] (spNmInt K C Dw.Nm.s)) (nb_range : mg "range" = none) (O_parts : CalO P w K mg base 1 C "parts" ["self"] (spParts K C)) :
    FnOk P w K mg base CX0 11 f fd ["_law_number"] (spVal K C) := by
  refine F.okW sc_l_value_right (spF.len fun _ => rfl) (fun cdv A outer s H vs Q E hr h => ?_)
  refine (?_ : ∃ t, Wr (PSs _ _ t) ∧ t _ _ _)
  obtain ⟨⟨v, n⟩, rfl, hv, h0, sm, q⟩ := h
  simp only at *
  have ok := hv.1
  have h2 : n.st ≠ 2 := by omega
  have sh := ok.sh
  have l0 := sh.l0; have l1 := sh.l1; have i1 := sh.h1; have e0 := ok.e0; have e1 := ok.e1
  obtain ⟨x1, x2, x3, x4⟩ := max_small (g := n.e) (by omega) (by omega)
  have dp := den_pos ok
  have vp := val_parts ok
  refine ⟨_, (wss_cons (ws_asg (we_meth0 O_value (hr.mono (by decide)) (wv 0)) (wg_tup (n := 2) (by rfl) (wgs_cons (wg_name (i := 1) sc_l_value_right.nd rfl (Or.inl rfl)) (wgs_cons (wg_name (i := 2) sc_l_value_right.nd rfl (Or.inr rfl)) wgs_nil))))
        (wss_cons (ws_asg (we_meth0 O_parts (hr.mono (by decide)) (wv 0)) (wg_tup (n := 2) (by rfl) (wgs_cons (wg_name (i := 3) sc_l_value_right.nd rfl (Or.inl rfl)) (wgs_cons (wg_name (i := 4) sc_l_value_right.nd rfl (Or.inl rfl)) wgs_nil))))
        (wss_cons (ws_if (wt_cmpR op_eq (we_meth0 O_sign (hr.mono (by decide)) (wv 0)) we_int (nomark _)) (wss_one (ws_set (i := 3) sc_l_value_right.nd rfl (Or.inl rfl) (we_op op_sub we_int (wv 3)))) wss_nil)
        (wss_cons (ws_if (ww_pt (ww_or (wt_cmpR op_ne (we_op op_mulB (wv 1) (we_op op_shl we_int (we_callB (call_maxM rfl) (by rfl) nb_max (by decide +kernel) (wa_cons we_int (wa_cons (we_op op_sub we_int (wv 4)) wa_nil))))) (we_op op_mulB (we_op op_mulB (wv 3) (we_op op_shl we_int (we_callB (call_maxM rfl) (by rfl) nb_max (by decide +kernel) (wa_cons we_int (wa_cons (wv 4) wa_nil))))) (wv 2)) (nomark _)) (ww_or1 (wt_cmpR op_lt (wv 2) we_int (nomark _))))) (wss_one (ws_ret we_bl)) wss_nil)
        (wss_cons (ws_if (ww_pt (ww_or (ww_pt (ww_and (wt_cmpR op_gt (wv 2) we_int (nomark _)) (ww_and1 (wt_cmpR op_eq (we_op op_mod (wv 1) we_int) we_int (nomark _))))) (ww_or1 (wt_cmpR (op_eqD hr.units) (we_lc (own := [("_law_k", 5)]) (g := gName 5) (by rfl) sc_l_value_right.nd (wi_range1 (by rfl) nb_range (wa_cons we_int wa_nil)) (blkOk_by (own := [("_law_k", 5)]) (N := ["_law_number", "_law_over", "_law_under", "_law_bits", "_law_scale", "_law_k", "_law_first", "_law_last"]) (sc := defScope st_l_value_right) (by decide +kernel)) (fun _ _ _ _ _ => wg_name (i := 5) sc_l_value_right.nd rfl (Or.inl rfl)) (fun _ _ _ _ _ => (wts_one (wt_cmpR op_eq (we_op op_shl we_int (wv 5)) (wv 2) (nomark _)))) (fun _ _ _ _ _ => (wv 5))) (we_lstA wa_nil) (nomark _))))) (wss_one (ws_ret we_bl)) wss_nil)
        (wss_cons (ws_if (ww_pt (ww_or (wt_cmpR op_eq (we_meth0 O_sign (hr.mono (by decide)) (wv 0)) we_int (nomark _)) (ww_or1 (wt_cmpR op_eq (we_meth0 O_kind (hr.mono (by decide)) (we_meth0 O_up (hr.mono (by decide)) (wv 0))) we_str (nomark _))))) (wss_one (ws_ret we_bl)) wss_nil)
        (wss_cons (ws_asg (we_meth0 O_value (hr.mono (by decide)) (we_meth0 O_up (hr.mono (by decide)) (wv 0))) (wg_tup (n := 2) (by rfl) (wgs_cons (wg_name (i := 6) sc_l_value_right.nd rfl (Or.inl rfl)) (wgs_cons (wg_name (i := 7) sc_l_value_right.nd rfl (Or.inl rfl)) wgs_nil))))
        (wss_one (ws_ret (we_cmpR op_eq (we_op op_mulB (we_op op_sub (we_op op_mulB (wv 6) (wv 2)) (we_op op_mulB (wv 1) (wv 7))) (we_op op_shl we_int (we_callB (call_maxM rfl) (by rfl) nb_max (by decide +kernel) (wa_cons we_int (wa_cons (we_op op_sub we_int (wv 4)) wa_nil))))) (we_op op_mulB (we_op op_mulB (we_op op_shl we_int (we_callB (call_maxM rfl) (by rfl) nb_max (by decide +kernel) (wa_cons we_int (wa_cons (wv 4) wa_nil)))) (wv 7)) (wv 2)) (nomark _))))))))))), ?_⟩
  (try simp only [cx_K, cx_K2])
  walk_at "nm0"
  with_reducible refine i_seq ?_
  walk_at "nm0"
  with_reducible refine i_seq ?_
  walk_at "nm0"
  with_reducible refine seq_jr (fun σ σ' => σ' = List.set σ 3 (some (.int n.sx))) (fun σ' H3 e3 s3 => ?_) (fun T tl => ?_)
  rotate_left
  · walk_at "nm0"
    refine i_ite (fun y => ?_) (fun y => ?_)
    · walk_at "nm0"
      exact tl _ _ (by unfold Nm.sx; rw [if_pos (of_decide_eq_true y), Int.zero_sub]) stpS
    · walk_at "nm0"
      exact tl _ _ (by unfold Nm.sx; rw [if_neg (of_decide_eq_false y)]; rfl) stpS
  subst e3
  walk_at "nm0"
  with_reducible refine i_seq ?_
  walk_at "nm0"
  refine i_mulB (mul_ok_num ok x3 x4) ?_
  walk_at "nm0"
  refine i_mulB (mul_ok_sx ok x1 (by omega)) ?_
  walk_at "nm0"
  refine i_mulB (mul_ok_sx2 ok x1 (by omega)) ?_
  walk_at "nm0"
  refine ifF' (nd vp) ?_
  walk_at "nm0"
  refine ifF' (decide_eq_false (by omega)) ?_
  walk_at "nm0"
  with_reducible refine seq_j0 True (fun H4 _ s4 => ?_) (fun T tl => ?_)
  rotate_left
  · walk_at "nm0"
    refine i_ite ?za ?zb
    case' za =>
      intro z
      walk_at "nm0"
      refine i_rI (show (0 : Int) < 2 by decide) ?_
      walk_at "nm0"
      refine ifF' (decide_eq_false (num_odd ok (of_decide_eq_true z))) ?_
    case' zb =>
      intro z
      refine ifF' rfl ?_
    all_goals
      walk_at "nm0"
      refine ⟨80, rfl, by decide, by decide, fun D hD => lc_range (lo := 0) (n := 80) (fun i H5 => ∃ ks : List Int, H5 = upd H3 D (.lst (ks.map V.int)) ∧ ks.length ≤ i ∧ (∀ j : Nat, n.den = 2 ^ j → j < i → ks ≠ [])) ⟨[], rfl, Nat.zero_le _, fun _ _ z => absurd z (Nat.not_lt_zero _)⟩ ?_ ?_⟩
      · rintro i H5 hi ⟨ks, rfl, hl, hk⟩
        refine ⟨rfl, ?_⟩
        have hd' : 0 ≤ (0 : Int) + (i : Nat) ∧ (0 : Int) + (i : Nat) ≤ 80 := by omega
        walk_at "nm0"
        refine i_ite (fun y => ?_) (fun y => ?_)
        · walk_at "nm0"
          refine ⟨_, upd_same, ?_, ks ++ [0 + (i : Int)], ?_, ?_, ?_⟩
          · rw [List.length_map]; exact small1000 (by omega)
          · rw [upd_upd, List.map_append]; rfl
          · rw [List.length_append]; simp only [List.length_cons, List.length_nil]; omega
          · intro j _ _; simp
        · refine ⟨ks, rfl, by omega, fun j hj hlt => ?_⟩
          rcases Nat.lt_or_ge j i with q | q
          · exact hk j hj q
          · obtain rfl : j = i := by omega
            exact absurd (by rw [Int.one_mul, show ((0 : Int) + (j : Nat)).toNat = j from by omega, hj]) (of_decide_eq_false y)
      rintro H5 ⟨ks, rfl, hl, hk⟩
      obtain ⟨j, hj, hjl⟩ := den_pow ok
      have sl := sm.2.1
      have kn := hk j hj (by omega)
      have st' : Stp H3 (upd H3 D (.lst (ks.map V.int))) := ⟨same_upd hD⟩
      walk_at "nm0"
      refine i_bornL rfl fun p G np sp tp => ?_
      refine ⟨.list (ks.map PyData.int), .list ([] : List PyData), .lst (SqL.of (sp.s _ _ upd_same)) (dp_ints ks), .lst (SqL.of tp) .nil, shaped_ints _, shaped_ints [], ?_⟩
      have ev : PyData.eqv (.list (ks.map PyData.int)) (.list ([] : List PyData)) = false := by
        cases ks with
        | nil => exact absurd rfl kn
        | cons k ks => simp [PyData.eqv, PyData.eqvAll]
      rw [ev]
      walk_at "nm0"
      refine ifF' rfl ?_
      walk_at "nm0"
      exact tl _ True.intro stpS
  obtain ⟨ra, rb⟩ := rank_fin ok h0
  obtain ⟨oa, ar, aS, a2, a1, -, -⟩ := moved_ok ok h2 (d := 1) (by omega) (by omega)
  have ast := oa.st2
  walk_at "nm0"
  with_reducible refine i_seq ?_
  walk_at "nm0"
  refine i_ite (fun z => ?_) (fun z => ?_)
  · refine ifT' rfl ?_
    walk_at "nm0"
    exact fin q
  have s0 : n.s = 0 := by
    have := of_decide_eq_false z
    have := ok.s01
    omega
  walk_at "nm0"
  rw [kindS_inf oa]
  refine i_ite (fun y => ?_) (fun y => ?_)
  · walk_at "nm0"
    exact fin q
  have a0 : (movedN n 1).st = 0 := by have := of_decide_eq_false y; omega
  have ug := up_gap ok h0 oa a0 aS ar
  have rk : n.rank = n.stp := by
    rcases Nm.rank_of ok h0 with ⟨s1, r1⟩ | ⟨s1, r1⟩
    · omega
    · exact r1
  have hg : (movedN n 1).sc - n.sc = wt n.e := by
    have p0 := ok.stp0
    rw [ug]
    by_cases rz : n.rank = 0
    · rw [if_pos (.inr rz)]
      have := rank_zero ok h2 rz
      rw [this]
      rfl
    · rw [if_neg (by omega), if_pos s0]
  clear ug a1
  walk_at "nm0"
  with_reducible refine i_seq ?_
  walk_at "nm0"
  refine i_mulB (mul_ok_val oa ok) ?_
  walk_at "nm0"
  refine i_mulB (mul_ok_val ok oa) ?_
  walk_at "nm0"
  refine i_mulB (mul_ok_gap oa ok x3 x4) ?_
  walk_at "nm0"
  refine i_mulB (mul_ok_den oa x1 (by omega)) ?_
  walk_at "nm0"
  refine i_mulB (mul_ok_den2 oa ok x1 (by omega)) ?_
  walk_at "nm0"
  rw [decide_eq_true (gap_eq ok oa (by omega) hg)]
  exact fin q
end
end K17

set_option Elab.async false
set_option linter.all false
set_option maxRecDepth 100000
set_option maxHeartbeats 4000000
namespace K17
open PySem PySem.Spec PyProof.Rows L2 Dw
local macro_rules | `(tactic| walk_at "nm") => `(tactic| repeat' (first
  | with_reducible refine i_seq ?_ | with_reducible refine i_asg ?_ | with_reducible refine i_ret ?_ | with_reducible refine i_drop ?_ | with_reducible refine i_ifS ?_ | with_reducible refine i_next ?_
  | with_reducible refine i_cons ?_ | with_reducible refine i_nil ?_ | with_reducible refine i_op ?_ | with_reducible refine i_un ?_ | with_reducible refine i_c ?_
  | with_reducible refine i_var ?_
  | with_reducible refine i_rI0 ?_ | with_reducible refine i_rU ?_
  | with_reducible refine i_rIa ?_
  | with_reducible refine i_test ?_ | with_reducible refine i_b ?_ | with_reducible refine i_bl ?_ | with_reducible refine i_if ?_ | with_reducible refine i_and ?_ | with_reducible refine i_or ?_ | with_reducible refine i_not ?_
  | with_reducible refine i_andV ?_ | with_reducible refine i_orV ?_ | with_reducible refine i_notV ?_ | with_reducible refine i_cb ?_ | with_reducible refine i_tup ?_ | with_reducible refine i_lst ?_ | with_reducible refine i_dget ?_
  | with_reducible refine i_gname ?_ | with_reducible refine i_chain ?_ | with_reducible refine i_eqI ?_ | with_reducible refine i_neI ?_ | with_reducible refine i_sl ?_ | with_reducible refine i_nopart ?_ | with_reducible refine i_part ?_ | with_reducible refine i_int ?_ | with_reducible refine i_par ?_ | with_reducible refine i_two ?_ | with_reducible refine i_strs ?_ | with_reducible refine i_isB ?_ | with_reducible refine i_isntB ?_ | with_reducible refine i_for ?_ | with_reducible refine i_itup ?_ | with_reducible refine i_ilist ?_ | with_reducible refine i_rng1 ?_
  | with_reducible refine i_fld ?_ | with_reducible refine f_sign (by assumption) (by assumption) ?_ | with_reducible refine f_m (by assumption) (by assumption) ?_ | with_reducible refine f_e (by assumption) (by assumption) ?_ | with_reducible refine f_state (by assumption) (by assumption) ?_
  | (with_reducible refine f_shape (by assumption) (by assumption) ?_; intro _ _)
  | with_reducible refine i_meth0 ?_ | with_reducible refine m_num (by assumption) ?_ | with_reducible refine i_call ?_ | with_reducible refine i_callP ?_ | with_reducible refine i_eqS ?_
  | with_reducible refine i_ixSh0 (by assumption) ?_ | with_reducible refine i_ixSh1 (by assumption) ?_ | with_reducible refine i_ixSh2 (by assumption) ?_ | with_reducible refine g_sh3 (by assumption) ?_ | with_reducible refine g_two (by assumption) ?_
  | with_reducible refine i_ixTup (by assumption) ?_
  | with_reducible refine i_fdB ?_ | with_reducible refine i_bm0 ?_ | with_reducible refine i_bits ?_ | with_reducible refine i_max ?_ | with_reducible refine i_min ?_ | with_reducible refine i_abs ?_ | with_reducible refine i_mul ?_ | with_reducible refine i_shl ?_
  | with_reducible refine c_shape (by assumption) ?_ | with_reducible refine c_shint (by assumption) ?_ | with_reducible refine c_nmint (by assumption) ?_ | with_reducible refine c_kind (by assumption) ?_ | with_reducible refine c_wantNum (by assumption) ?_ | with_reducible refine c_order ?_ | with_reducible refine c_whole ?_
  | (with_reducible refine c_shapeM (by assumption) ?_; intro _ _) | (with_reducible refine c_parts (by assumption) ?_; intro _ _ _ _) | (with_reducible refine c_value (by assumption) ?_; intro _ _ _ _) | (with_reducible refine c_rank (by assumption) ?_; intro _ _) | (with_reducible refine c_steps (by assumption) ?_; intro _ _)
  | (with_reducible refine c_word (by assumption) ?_; intro _ _) | (with_reducible refine c_nmnm (by assumption) ?_; intro _ _ _ _) | (with_reducible refine c_compare (by assumption) (by assumption) ?_; intro _ _) | (with_reducible refine c_moved (by assumption) ?_; intro _ _ _ _)
  | with_reducible refine c_eq (by assumption) (by assumption) ?_ | with_reducible refine c_ne (by assumption) (by assumption) ?_
  | with_reducible refine i_isNN ?_ | with_reducible refine i_isNI ?_ | with_reducible refine i_sfld ?_ | with_reducible refine i_make ?_ | with_reducible refine c_eqSh (by assumption) (by assumption) ?_ | with_reducible refine c_neSh (by assumption) (by assumption) ?_ | with_reducible refine c_ne2 (by assumption) (by assumption) ?_
  | with_reducible refine i_par3 ?_ | with_reducible refine i_three ?_ | with_reducible refine g_three (by assumption) ?_
  | with_reducible refine i_pl0 (by assumption) ?_ | (with_reducible refine i_pl1 (by assumption) ?_; intro _ _) | with_reducible refine i_pl2 (by assumption) ?_ | with_reducible refine i_pl3 (by assumption) ?_ | with_reducible refine i_pl4 (by assumption) ?_
  | with_reducible refine i_fmt ?_ | with_reducible refine i_jc ?_ | with_reducible refine i_jn ?_
  | (with_reducible refine c_cmpN (by assumption) (by assumption) ?_; intro _ _) | with_reducible refine c_rankP (by assumption) ?_))
local macro_rules | `(tactic| walk_at "nm0") => `(tactic| repeat' (first
  | with_reducible refine i_asg ?_ | with_reducible refine i_ret ?_ | with_reducible refine i_drop ?_ | with_reducible refine i_ifS ?_ | with_reducible refine i_next ?_
  | with_reducible refine i_cons ?_ | with_reducible refine i_nil ?_ | with_reducible refine i_op ?_ | with_reducible refine i_un ?_ | with_reducible refine i_c ?_
  | with_reducible refine i_var ?_
  | with_reducible refine i_rI0 ?_ | with_reducible refine i_rU ?_
  | with_reducible refine i_rIa ?_
  | with_reducible refine i_test ?_ | with_reducible refine i_b ?_ | with_reducible refine i_bl ?_ | with_reducible refine i_if ?_ | with_reducible refine i_and ?_ | with_reducible refine i_or ?_ | with_reducible refine i_not ?_
  | with_reducible refine i_andV ?_ | with_reducible refine i_orV ?_ | with_reducible refine i_notV ?_ | with_reducible refine i_cb ?_ | with_reducible refine i_tup ?_ | with_reducible refine i_lst ?_ | with_reducible refine i_dget ?_
  | with_reducible refine i_gname ?_ | with_reducible refine i_chain ?_ | with_reducible refine i_eqI ?_ | with_reducible refine i_neI ?_ | with_reducible refine i_sl ?_ | with_reducible refine i_nopart ?_ | with_reducible refine i_part ?_ | with_reducible refine i_int ?_ | with_reducible refine i_par ?_ | with_reducible refine i_two ?_ | with_reducible refine i_strs ?_ | with_reducible refine i_isB ?_ | with_reducible refine i_isntB ?_ | with_reducible refine i_for ?_ | with_reducible refine i_itup ?_ | with_reducible refine i_ilist ?_ | with_reducible refine i_rng1 ?_
  | with_reducible refine i_fld ?_ | with_reducible refine f_sign (by assumption) (by assumption) ?_ | with_reducible refine f_m (by assumption) (by assumption) ?_ | with_reducible refine f_e (by assumption) (by assumption) ?_ | with_reducible refine f_state (by assumption) (by assumption) ?_
  | (with_reducible refine f_shape (by assumption) (by assumption) ?_; intro _ _)
  | with_reducible refine i_meth0 ?_ | with_reducible refine m_num (by assumption) ?_ | with_reducible refine i_call ?_ | with_reducible refine i_callP ?_ | with_reducible refine i_eqS ?_
  | with_reducible refine i_ixSh0 (by assumption) ?_ | with_reducible refine i_ixSh1 (by assumption) ?_ | with_reducible refine i_ixSh2 (by assumption) ?_ | with_reducible refine g_sh3 (by assumption) ?_ | with_reducible refine g_two (by assumption) ?_
  | with_reducible refine i_ixTup (by assumption) ?_
  | with_reducible refine i_fdB ?_ | with_reducible refine i_bm0 ?_ | with_reducible refine i_bits ?_ | with_reducible refine i_max ?_ | with_reducible refine i_min ?_ | with_reducible refine i_abs ?_ | with_reducible refine i_mul ?_ | with_reducible refine i_shl ?_
  | with_reducible refine c_shape (by assumption) ?_ | with_reducible refine c_shint (by assumption) ?_ | with_reducible refine c_nmint (by assumption) ?_ | with_reducible refine c_kind (by assumption) ?_ | with_reducible refine c_wantNum (by assumption) ?_ | with_reducible refine c_order ?_ | with_reducible refine c_whole ?_
  | (with_reducible refine c_shapeM (by assumption) ?_; intro _ _) | (with_reducible refine c_parts (by assumption) ?_; intro _ _ _ _) | (with_reducible refine c_value (by assumption) ?_; intro _ _ _ _) | (with_reducible refine c_rank (by assumption) ?_; intro _ _) | (with_reducible refine c_steps (by assumption) ?_; intro _ _)
  | (with_reducible refine c_word (by assumption) ?_; intro _ _) | (with_reducible refine c_nmnm (by assumption) ?_; intro _ _ _ _) | (with_reducible refine c_compare (by assumption) (by assumption) ?_; intro _ _) | (with_reducible refine c_moved (by assumption) ?_; intro _ _ _ _)
  | with_reducible refine c_eq (by assumption) (by assumption) ?_ | with_reducible refine c_ne (by assumption) (by assumption) ?_
  | with_reducible refine i_isNN ?_ | with_reducible refine i_isNI ?_ | with_reducible refine i_sfld ?_ | with_reducible refine i_make ?_ | with_reducible refine c_eqSh (by assumption) (by assumption) ?_ | with_reducible refine c_neSh (by assumption) (by assumption) ?_ | with_reducible refine c_ne2 (by assumption) (by assumption) ?_
  | with_reducible refine i_par3 ?_ | with_reducible refine i_three ?_ | with_reducible refine g_three (by assumption) ?_
  | with_reducible refine i_pl0 (by assumption) ?_ | (with_reducible refine i_pl1 (by assumption) ?_; intro _ _) | with_reducible refine i_pl2 (by assumption) ?_ | with_reducible refine i_pl3 (by assumption) ?_ | with_reducible refine i_pl4 (by assumption) ?_
  | with_reducible refine i_fmt ?_ | with_reducible refine i_jc ?_ | with_reducible refine i_jn ?_
  | (with_reducible refine c_cmpN (by assumption) (by assumption) ?_; intro _ _) | with_reducible refine c_rankP (by assumption) ?_))
section
variable {K : PySem.W.Frag} {C : Addr} {H H0 H1 H2 H3 H' : Hp} {Q : VK} {E : XK} {m c l a b : Addr} {k : Nat} {v u x w : V} {S : Sh}
def spOrd (K : PySem.W.Frag) (C : Addr) : Sp := spF (fun x : Addr × Addr × Addr × Nat × Addr × Addr × Sh => [.ref x.1, .ref x.2.2.2.2.1, .ref x.2.2.2.2.2.1]) fun x H Q => MOk H x.1 x.2.1 x.2.2.1 x.2.2.2.1 ∧ x.2.2.2.1 < 2 ^ 28 ∧ x.2.2.2.2.1 ≠ x.2.2.1 ∧ x.2.2.2.2.2.1 ≠ x.2.2.1 ∧ x.2.2.2.2.2.2.Ok ∧ Small x.2.2.2.2.2.2 ∧
  PlsAt K H (.ref x.2.2.2.2.1) (many x.2.2.2.2.2.2) (fUp x.2.2.2.2.2.2) ∧ NmsAt K C H (.ref x.2.2.2.2.2.1) (many x.2.2.2.2.2.2) (fUp x.2.2.2.2.2.2) ∧ ∀ H', Keep x.1 x.2.2.1 H H' → MOk H' x.1 x.2.1 x.2.2.1 (x.2.2.2.1 + 120) → Q (.bl true) H'
theorem i_at {xs : List V} {i : Int} {k : Nat} (s : H a = some (.lst xs)) (h0 : 0 ≤ i) (h1 : i < k) (hl : xs.length = k) (h : ∀ (j : Nat) v, i = j → xs[j]? = some v → Q v H) : rIxL K (.ref a) (.int i) H Q := by
  obtain ⟨j, rfl⟩ : ∃ j : Nat, i = j := ⟨i.toNat, by omega⟩
  have hj : j < xs.length := by omega
  exact ⟨a, xs, j, xs[j], rfl, rfl, SqL.of s, atI_nat (List.getElem?_eq_getElem hj), h j _ rfl (List.getElem?_eq_getElem hj)⟩
theorem small_last (h : S.Ok) (sm : Small S) : S.last ≤ 40 := by
  have f := small_fn sm
  have f2 := h.fn2
  have h0 := h.h0
  obtain ⟨_, _, h3⟩ := sm
  unfold Sh.last
  have := mul_le_r (show S.hi - S.lo + 2 ≤ 5 by omega) (show (0 : Int) ≤ S.fn by omega)
  omega
theorem up_at (h : S.Ok) {i : Nat} (hi : i < many S) : (fUp S i).Ok ∧ (fUp S i).rank = i - S.last ∧ (fUp S i).S = S ∧ (fUp S i).st ≠ 2 ∧ ((fUp S i).st = 1 ↔ absI (i - S.last) = S.last) := by
  have l4 := h.last4
  have f2 := h.fn2
  unfold many at hi
  obtain ⟨o, rk, sS, s2, s1, _⟩ := plain_ok h (r := (i : Int) - S.last) (s := 1) (by omega) (by omega) (.inr rfl)
  exact ⟨o, rk, sS, s2, s1⟩
end
abbrev st_l_order_right : Stmt := top 46
theorem sc_l_order_right : FnScope ["_law_m", "_law_found", "_law_numbers", "_law_k", "_law_first", "_law_last", "_law_here", "_law_there", "_law_owed"] ["_law_m", "_law_found", "_law_numbers"] (defScope st_l_order_right) := ⟨rfl, rfl, rfl, by decide +kernel, rfl, by decide +kernel, by decide +kernel⟩
section
variable {P : Program} {w : World} {K : PySem.W.Frag} {mg : Str → Option Value} {base : Heap} {C : Addr}
theorem ok_l_order_right {f : Addr} {fd : FuncData} (F : Fun K "_law_order_right" "_law_order_right" st_l_order_right f fd) (nb_range : mg "range" = none) (C_between : Cal P w K mg base 5 "between" ["one", "other"] (spBetween K C)) (nb_max : mg "max" = none) (nb_abs : mg "abs" = none) (C_compare : Cal P w K mg base 4 "compare" ["one", "other"] (spCompareN K C)) (C__law_rank : Cal P w K mg base 2 "_law_rank" ["_law_plain"] (spRankP K)) (nb_min : mg "min" = none) (C__law_draw : Cal P w K mg base 2 "_law_draw" ["_law_m", "_law_top_here"] (spDraw)) (nb_len : mg "len" = none) :
    FnOk P w K mg base CX0 6 f fd ["_law_m", "_law_found", "_law_numbers"] (spOrd K C) := by
  refine F.okW sc_l_order_right (spF.len fun _ => rfl) (fun cdv A outer s H vs Q E hr h => ?_)
  refine (?_ : ∃ t, Wr (PSs _ _ t) ∧ t _ _ _)
  obtain ⟨⟨m, c, l, k, a, b, S⟩, rfl, M, hk, al, bl, sh, sm, ⟨_, xs, e1, ha, la, fa⟩, ⟨_, ys, e2, hb, lb, fb⟩, q⟩ := h
  simp only at *
  cases e1
  cases e2
  have l4 := sh.last4; have f2 := sh.fn2
  have l40 := small_last sh sm
  have mn : (many S : Int) = 2 * S.last + 1 := by unfold many; omega
  obtain ⟨am, bm⟩ : a ≠ m ∧ b ≠ m := by
    obtain ⟨⟨_, cs, ls, _, hm, _⟩, _⟩ := M
    exact ⟨ne_of ha hm (by intro z; cases z), ne_of hb hm (by intro z; cases z)⟩
  refine ⟨_, (wss_cons (ws_for rfl (wi_range1 (by rfl) nb_range (wa_cons we_int wa_nil)) (wg_name (i := 3) sc_l_order_right.nd rfl (Or.inl rfl)) (wss_cons (ws_par (i := 4) (j := 5) (by rfl) sc_l_order_right.nd rfl rfl (by decide) rfl rfl (wa_cons (we_cal C__law_draw (hr.mono (by decide)) (by rfl) (wa_cons (wv 0) (wa_cons (we_callB call_len_seq (by rfl) nb_len (by decide +kernel) (wa_cons (wv 1) wa_nil)) wa_nil))) (wa_cons (we_cal C__law_draw (hr.mono (by decide)) (by rfl) (wa_cons (wv 0) (wa_cons (we_callB call_len_seq (by rfl) nb_len (by decide +kernel) (wa_cons (wv 1) wa_nil)) wa_nil))) wa_nil)) (by rfl))
        (wss_cons (ws_if (wt_cmpR op_eq (we_op op_mod (wv 3) we_int) we_int (nomark _)) (wss_one (ws_set (i := 5) sc_l_order_right.nd rfl (Or.inl rfl) (we_callB (call_minM rfl) (by rfl) nb_min (by decide +kernel) (wa_cons (we_op op_sub (we_callB call_len_seq (by rfl) nb_len (by decide +kernel) (wa_cons (wv 1) wa_nil)) we_int) (wa_cons (we_op op_add (we_op op_add (wv 4) we_int) (we_cal C__law_draw (hr.mono (by decide)) (by rfl) (wa_cons (wv 0) (wa_cons we_int wa_nil)))) wa_nil))))) wss_nil)
        (wss_cons (ws_par (i := 6) (j := 7) (by rfl) sc_l_order_right.nd rfl rfl (by decide) rfl rfl (wa_cons (we_cal C__law_rank (hr.mono (by decide)) (by rfl) (wa_cons (we_ix ix_list (wv 1) (wv 4) (fun _ _ => rfl)) wa_nil)) (wa_cons (we_cal C__law_rank (hr.mono (by decide)) (by rfl) (wa_cons (we_ix ix_list (wv 1) (wv 5) (fun _ _ => rfl)) wa_nil)) wa_nil)) (by rfl))
        (wss_cons (ws_set (i := 8) sc_l_order_right.nd rfl (Or.inl rfl) (we_ifExp (wt_cmpR op_eq (wv 6) (wv 7) (nomark _)) we_int (we_ifExp (wt_cmpR op_gt (wv 6) (wv 7) (nomark _)) we_int (we_un un_neg we_int))))
        (wss_cons (ws_if (ww_pt (ww_or (wt_cmpR op_ne (we_cal C_compare (hr.mono (by decide)) (by rfl) (wa_cons (we_ix ix_list (wv 2) (wv 4) (fun _ _ => rfl)) (wa_cons (we_ix ix_list (wv 2) (wv 5) (fun _ _ => rfl)) wa_nil))) (wv 8) (nomark _)) (ww_or1 (wt_cmpR op_ne (we_cal C_compare (hr.mono (by decide)) (by rfl) (wa_cons (we_ix ix_list (wv 2) (wv 5) (fun _ _ => rfl)) (wa_cons (we_ix ix_list (wv 2) (wv 4) (fun _ _ => rfl)) wa_nil))) (we_op op_sub we_int (wv 8)) (nomark _))))) (wss_one (ws_ret we_bl)) wss_nil)
        (wss_one (ws_if (wt_cmpR op_ne (we_cal C_between (hr.mono (by decide)) (by rfl) (wa_cons (we_ix ix_list (wv 2) (wv 4) (fun _ _ => rfl)) (wa_cons (we_ix ix_list (wv 2) (wv 5) (fun _ _ => rfl)) wa_nil))) (we_callB (call_maxM rfl) (by rfl) nb_max (by decide +kernel) (wa_cons we_int (wa_cons (we_op op_sub (we_callB call_absM (by rfl) nb_abs (by decide +kernel) (wa_cons (we_op op_sub (wv 6) (wv 7)) wa_nil)) we_int) wa_nil))) (nomark _)) (wss_one (ws_ret we_bl)) wss_nil))))))))
        (wss_one (ws_ret we_bl))), ?_⟩
  (try simp only [cx_K, cx_K2])
  walk_at "nm"
  refine ⟨40, rfl, by decide, by decide, for_range (lo := 0) (n := (40 : Int).toNat) (fun i σ H3 => ∃ v3 v4 v5 v6 v7 v8, σ = [some (.ref m), some (.ref a), some (.ref b), v3, v4, v5, v6, v7, v8] ∧ MOk H3 m c l (k + 3 * i) ∧ Keep m l H H3) ⟨_, _, _, _, _, _, rfl, M, Keep.refl _ _ _⟩ ?_ ?_⟩
  · rintro i σ H3 hi ⟨v3, v4, v5, v6, v7, v8, rfl, M3, k3⟩
    have hi' : i < 40 := hi
    have d3 : Drw H H3 := M.drw k3
    have ha3 := k3 _ _ ha am al
    have hb3 := k3 _ _ hb bm bl
    refine i_seq ?_
    walk_at "nm0"
    refine ⟨a, xs, rfl, .inl (SqL.of ha3), ?_⟩
    rw [la]
    walk_at "nm0"
    refine c_draw M3 (fun r1 H4 k4 d4 a4 b4 M4 => ?_)
    walk_at "nm0"
    refine ⟨a, xs, rfl, .inl (SqL.of (list_kept M3 ha3 am.symm al.symm)), ?_⟩
    rw [la]
    walk_at "nm0"
    refine c_draw M4 (fun r2 H5 k5 d5 a5 b5 M5 => ?_)
    walk_at "nm0"
    with_reducible refine seq_jh (fun σ H σ' H' => ∃ r, σ' = List.set σ 5 (some (.int r)) ∧ 0 ≤ r ∧ r < (many S : Int) ∧ MOk H' m c l (k + 3 * i + 3) ∧ Kpt m l H H' ∧ Drw H H') (fun σ' H6 e6 => ?_) (fun T tl => ?_)
    rotate_left
    · walk_at "nm0"
      refine i_rI (show (0 : Int) < 4 by decide) ?_
      walk_at "nm0"
      refine i_ite (fun z => ?_) (fun z => ?_)
      · walk_at "nm0"
        refine ⟨a, xs, rfl, .inl (SqL.of (list_kept M3 ha3 am.symm al.symm)), ?_⟩
        rw [la]
        walk_at "nm0"
        refine c_draw M5 (fun r3 H6 k6 d6 a6 b6 M6 => ?_)
        walk_at "nm0"
        have mi : 0 ≤ minI ((many S : Int) - 1) (r1 + 1 + r3) ∧ minI ((many S : Int) - 1) (r1 + 1 + r3) < (many S : Int) := by unfold minI; split <;> omega
        exact tl _ _ ⟨_, rfl, mi.1, mi.2, M6, k6, d6⟩
      · walk_at "nm0"
        exact tl _ _ ⟨r2, rfl, a5, b5, M5.mono (by omega), ⟨Keep.refl _ _ _⟩, ⟨fun _ _ _ e => e⟩⟩
    obtain ⟨r3, rfl, a6, b6, M6, k6, d6⟩ := e6
    obtain ⟨j1, rfl⟩ : ∃ j : Nat, r1 = j := ⟨r1.toNat, by omega⟩
    obtain ⟨j2, rfl⟩ : ∃ j : Nat, r3 = j := ⟨r3.toNat, by omega⟩
    obtain ⟨o1, rk1, S1, t1, _⟩ := up_at sh (show j1 < many S by omega)
    obtain ⟨o2, rk2, S2, t2, _⟩ := up_at sh (show j2 < many S by omega)
    have hc1 := cmp_rank o1 o2 (S1.trans S2.symm) t1 t2
    have hc2 : cmpN (fUp S j2) (fUp S j1) = 0 - sgn (fUp S j1).rank (fUp S j2).rank := by rw [← hc1, ← cmp_swap]
    walk_at "nm0"
    with_reducible refine i_seq ?_
    walk_at "nm0"
    refine i_at (list_kept M3 ha3 am.symm al.symm) (by omega) b4 la fun j x ej hx => ?_
    obtain rfl : j = j1 := by omega
    have p1 := fa _ x hx
    walk_at "nm0"
    refine i_at (list_kept M3 ha3 am.symm al.symm) (by omega) b6 la fun j' x' ej' hx' => ?_
    obtain rfl : j' = j2 := by omega
    have p2 := fa _ x' hx'
    walk_at "nm0"
    with_reducible refine seq_jr (fun σ σ' => σ' = List.set σ 8 (some (.int (sgn (fUp S j).rank (fUp S j').rank)))) (fun σ' H7 e7 s7 => ?_) (fun T tl => ?_)
    rotate_left
    · walk_at "nm0"
      refine i_ite (fun y => ?_) (fun y => ?_)
      · walk_at "nm0"
        exact tl _ _ (by unfold sgn; rw [if_pos (of_decide_eq_true y)]) stpS
      · have y' := of_decide_eq_false y
        walk_at "nm0"
        refine i_ite (fun x => ?_) (fun x => ?_)
        · have x' := of_decide_eq_true x
          walk_at "nm0"
          exact tl _ _ (by unfold sgn; rw [if_neg y', if_neg (by omega)]) stpS
        · have x' := of_decide_eq_false x
          walk_at "nm0"
          exact tl _ _ (by unfold sgn; rw [if_neg y', if_pos (by omega)]) stpS
    subst e7
    walk_at "nm0"
    with_reducible refine i_seq ?_
    walk_at "nm0"
    refine i_at (list_kept M3 hb3 bm.symm bl.symm) (by omega) b4 lb fun i1 y1 ei1 hy1 => ?_
    obtain rfl : i1 = j := by omega
    have n1 := fb _ y1 hy1
    walk_at "nm0"
    refine i_at (list_kept M3 hb3 bm.symm bl.symm) (by omega) b6 lb fun i2 y2 ei2 hy2 => ?_
    obtain rfl : i2 = j' := by omega
    have n2 := fb _ y2 hy2
    walk_at "nm0"
    refine ifF' (nd hc1) ?_
    walk_at "nm0"
    refine i_at (list_kept M3 hb3 bm.symm bl.symm) (by omega) b6 lb fun i3 y3 ei3 hy3 => ?_
    obtain rfl : i3 = i2 := by omega
    have n3 := fb _ y3 hy3
    walk_at "nm0"
    refine i_at (list_kept M3 hb3 bm.symm bl.symm) (by omega) b4 lb fun i4 y4 ei4 hy4 => ?_
    obtain rfl : i4 = i1 := by omega
    have n4 := fb _ y4 hy4
    walk_at "nm0"
    refine ifF' (nd hc2) ?_
    walk_at "nm0"
    refine i_at (list_kept M3 hb3 bm.symm bl.symm) (by omega) b4 lb fun i5 y5 ei5 hy5 => ?_
    obtain rfl : i5 = i4 := by omega
    have n5 := fb _ y5 hy5
    walk_at "nm0"
    refine i_at (list_kept M3 hb3 bm.symm bl.symm) (by omega) b6 lb fun i6 y6 ei6 hy6 => ?_
    obtain rfl : i6 = i3 := by omega
    have n6 := fb _ y6 hy6
    walk_at "nm0"
    refine c_between n5 n6 (S1.trans S2.symm) fun H8 s8 => ?_
    walk_at "nm0"
    refine ifF' (nd rfl) ?_
    walk_at "nm0"
    exact ⟨_, _, _, _, _, _, rfl, mokS M6, kpS k3⟩
  · rintro σ H3 ⟨v3, v4, v5, v6, v7, v8, rfl, M3, k3⟩
    walk_at "nm"
    exact q _ k3 (M3.mono (by omega))
end
end K17

set_option Elab.async false
set_option linter.all false
set_option maxRecDepth 100000
set_option maxHeartbeats 4000000
namespace K17
open PySem PySem.Spec PyProof.Rows L2 Dw
local macro_rules | `(tactic| walk_at "nm") => `(tactic| repeat' (first
  | with_reducible refine i_seq ?_ | with_reducible refine i_asg ?_ | with_reducible refine i_ret ?_ | with_reducible refine i_drop ?_ | with_reducible refine i_ifS ?_ | with_reducible refine i_next ?_
  | with_reducible refine i_cons ?_ | with_reducible refine i_nil ?_ | with_reducible refine i_op ?_ | with_reducible refine i_un ?_ | with_reducible refine i_c ?_
  | with_reducible refine i_var ?_
  | with_reducible refine i_rI0 ?_ | with_reducible refine i_rU ?_
  | with_reducible refine i_rIa ?_
  | with_reducible refine i_test ?_ | with_reducible refine i_b ?_ | with_reducible refine i_bl ?_ | with_reducible refine i_if ?_ | with_reducible refine i_and ?_ | with_reducible refine i_or ?_ | with_reducible refine i_not ?_
  | with_reducible refine i_andV ?_ | with_reducible refine i_orV ?_ | with_reducible refine i_notV ?_ | with_reducible refine i_cb ?_ | with_reducible refine i_tup ?_ | with_reducible refine i_lst ?_ | with_reducible refine i_dget ?_
  | with_reducible refine i_gname ?_ | with_reducible refine i_chain ?_ | with_reducible refine i_eqI ?_ | with_reducible refine i_neI ?_ | with_reducible refine i_sl ?_ | with_reducible refine i_nopart ?_ | with_reducible refine i_part ?_ | with_reducible refine i_int ?_ | with_reducible refine i_par ?_ | with_reducible refine i_two ?_ | with_reducible refine i_strs ?_ | with_reducible refine i_isB ?_ | with_reducible refine i_isntB ?_ | with_reducible refine i_for ?_ | with_reducible refine i_itup ?_ | with_reducible refine i_ilist ?_ | with_reducible refine i_rng1 ?_
  | with_reducible refine i_fld ?_ | with_reducible refine f_sign (by assumption) (by assumption) ?_ | with_reducible refine f_m (by assumption) (by assumption) ?_ | with_reducible refine f_e (by assumption) (by assumption) ?_ | with_reducible refine f_state (by assumption) (by assumption) ?_
  | (with_reducible refine f_shape (by assumption) (by assumption) ?_; intro _ _)
  | with_reducible refine i_meth0 ?_ | with_reducible refine m_num (by assumption) ?_ | with_reducible refine i_call ?_ | with_reducible refine i_callP ?_ | with_reducible refine i_eqS ?_
  | with_reducible refine i_ixSh0 (by assumption) ?_ | with_reducible refine i_ixSh1 (by assumption) ?_ | with_reducible refine i_ixSh2 (by assumption) ?_ | with_reducible refine g_sh3 (by assumption) ?_ | with_reducible refine g_two (by assumption) ?_
  | with_reducible refine i_ixTup (by assumption) ?_
  | with_reducible refine i_fdB ?_ | with_reducible refine i_bm0 ?_ | with_reducible refine i_bits ?_ | with_reducible refine i_max ?_ | with_reducible refine i_min ?_ | with_reducible refine i_abs ?_ | with_reducible refine i_mul ?_ | with_reducible refine i_shl ?_
  | with_reducible refine c_shape (by assumption) ?_ | with_reducible refine c_shint (by assumption) ?_ | with_reducible refine c_nmint (by assumption) ?_ | with_reducible refine c_kind (by assumption) ?_ | with_reducible refine c_wantNum (by assumption) ?_ | with_reducible refine c_order ?_ | with_reducible refine c_whole ?_
  | (with_reducible refine c_shapeM (by assumption) ?_; intro _ _) | (with_reducible refine c_parts (by assumption) ?_; intro _ _ _ _) | (with_reducible refine c_value (by assumption) ?_; intro _ _ _ _) | (with_reducible refine c_rank (by assumption) ?_; intro _ _) | (with_reducible refine c_steps (by assumption) ?_; intro _ _)
  | (with_reducible refine c_word (by assumption) ?_; intro _ _) | (with_reducible refine c_nmnm (by assumption) ?_; intro _ _ _ _) | (with_reducible refine c_compare (by assumption) (by assumption) ?_; intro _ _) | (with_reducible refine c_moved (by assumption) ?_; intro _ _ _ _)
  | with_reducible refine c_eq (by assumption) (by assumption) ?_ | with_reducible refine c_ne (by assumption) (by assumption) ?_
  | with_reducible refine i_isNN ?_ | with_reducible refine i_isNI ?_ | with_reducible refine i_sfld ?_ | with_reducible refine i_make ?_ | with_reducible refine c_eqSh (by assumption) (by assumption) ?_ | with_reducible refine c_neSh (by assumption) (by assumption) ?_ | with_reducible refine c_ne2 (by assumption) (by assumption) ?_
  | with_reducible refine i_par3 ?_ | with_reducible refine i_three ?_ | with_reducible refine g_three (by assumption) ?_
  | with_reducible refine i_pl0 (by assumption) ?_ | (with_reducible refine i_pl1 (by assumption) ?_; intro _ _) | with_reducible refine i_pl2 (by assumption) ?_ | with_reducible refine i_pl3 (by assumption) ?_ | with_reducible refine i_pl4 (by assumption) ?_
  | with_reducible refine i_fmt ?_ | with_reducible refine i_jc ?_ | with_reducible refine i_jn ?_
  | (with_reducible refine c_cmpN (by assumption) (by assumption) ?_; intro _ _) | with_reducible refine c_rankP (by assumption) ?_))
local macro_rules | `(tactic| walk_at "nm0") => `(tactic| repeat' (first
  | with_reducible refine i_asg ?_ | with_reducible refine i_ret ?_ | with_reducible refine i_drop ?_ | with_reducible refine i_ifS ?_ | with_reducible refine i_next ?_
  | with_reducible refine i_cons ?_ | with_reducible refine i_nil ?_ | with_reducible refine i_op ?_ | with_reducible refine i_un ?_ | with_reducible refine i_c ?_
  | with_reducible refine i_var ?_
  | with_reducible refine i_rI0 ?_ | with_reducible refine i_rU ?_
  | with_reducible refine i_rIa ?_
  | with_reducible refine i_test ?_ | with_reducible refine i_b ?_ | with_reducible refine i_bl ?_ | with_reducible refine i_if ?_ | with_reducible refine i_and ?_ | with_reducible refine i_or ?_ | with_reducible refine i_not ?_
  | with_reducible refine i_andV ?_ | with_reducible refine i_orV ?_ | with_reducible refine i_notV ?_ | with_reducible refine i_cb ?_ | with_reducible refine i_tup ?_ | with_reducible refine i_lst ?_ | with_reducible refine i_dget ?_
  | with_reducible refine i_gname ?_ | with_reducible refine i_chain ?_ | with_reducible refine i_eqI ?_ | with_reducible refine i_neI ?_ | with_reducible refine i_sl ?_ | with_reducible refine i_nopart ?_ | with_reducible refine i_part ?_ | with_reducible refine i_int ?_ | with_reducible refine i_par ?_ | with_reducible refine i_two ?_ | with_reducible refine i_strs ?_ | with_reducible refine i_isB ?_ | with_reducible refine i_isntB ?_ | with_reducible refine i_for ?_ | with_reducible refine i_itup ?_ | with_reducible refine i_ilist ?_ | with_reducible refine i_rng1 ?_
  | with_reducible refine i_fld ?_ | with_reducible refine f_sign (by assumption) (by assumption) ?_ | with_reducible refine f_m (by assumption) (by assumption) ?_ | with_reducible refine f_e (by assumption) (by assumption) ?_ | with_reducible refine f_state (by assumption) (by assumption) ?_
  | (with_reducible refine f_shape (by assumption) (by assumption) ?_; intro _ _)
  | with_reducible refine i_meth0 ?_ | with_reducible refine m_num (by assumption) ?_ | with_reducible refine i_call ?_ | with_reducible refine i_callP ?_ | with_reducible refine i_eqS ?_
  | with_reducible refine i_ixSh0 (by assumption) ?_ | with_reducible refine i_ixSh1 (by assumption) ?_ | with_reducible refine i_ixSh2 (by assumption) ?_ | with_reducible refine g_sh3 (by assumption) ?_ | with_reducible refine g_two (by assumption) ?_
  | with_reducible refine i_ixTup (by assumption) ?_
  | with_reducible refine i_fdB ?_ | with_reducible refine i_bm0 ?_ | with_reducible refine i_bits ?_ | with_reducible refine i_max ?_ | with_reducible refine i_min ?_ | with_reducible refine i_abs ?_ | with_reducible refine i_mul ?_ | with_reducible refine i_shl ?_
  | with_reducible refine c_shape (by assumption) ?_ | with_reducible refine c_shint (by assumption) ?_ | with_reducible refine c_nmint (by assumption) ?_ | with_reducible refine c_kind (by assumption) ?_ | with_reducible refine c_wantNum (by assumption) ?_ | with_reducible refine c_order ?_ | with_reducible refine c_whole ?_
  | (with_reducible refine c_shapeM (by assumption) ?_; intro _ _) | (with_reducible refine c_parts (by assumption) ?_; intro _ _ _ _) | (with_reducible refine c_value (by assumption) ?_; intro _ _ _ _) | (with_reducible refine c_rank (by assumption) ?_; intro _ _) | (with_reducible refine c_steps (by assumption) ?_; intro _ _)
  | (with_reducible refine c_word (by assumption) ?_; intro _ _) | (with_reducible refine c_nmnm (by assumption) ?_; intro _ _ _ _) | (with_reducible refine c_compare (by assumption) (by assumption) ?_; intro _ _) | (with_reducible refine c_moved (by assumption) ?_; intro _ _ _ _)
  | with_reducible refine c_eq (by assumption) (by assumption) ?_ | with_reducible refine c_ne (by assumption) (by assumption) ?_
  | with_reducible refine i_isNN ?_ | with_reducible refine i_isNI ?_ | with_reducible refine i_sfld ?_ | with_reducible refine i_make ?_ | with_reducible refine c_eqSh (by assumption) (by assumption) ?_ | with_reducible refine c_neSh (by assumption) (by assumption) ?_ | with_reducible refine c_ne2 (by assumption) (by assumption) ?_
  | with_reducible refine i_par3 ?_ | with_reducible refine i_three ?_ | with_reducible refine g_three (by assumption) ?_
  | with_reducible refine i_pl0 (by assumption) ?_ | (with_reducible refine i_pl1 (by assumption) ?_; intro _ _) | with_reducible refine i_pl2 (by assumption) ?_ | with_reducible refine i_pl3 (by assumption) ?_ | with_reducible refine i_pl4 (by assumption) ?_
  | with_reducible refine i_fmt ?_ | with_reducible refine i_jc ?_ | with_reducible refine i_jn ?_
  | (with_reducible refine c_cmpN (by assumption) (by assumption) ?_; intro _ _) | with_reducible refine c_rankP (by assumption) ?_))
section
variable {K : PySem.W.Frag} {C : Addr} {H H0 H1 H2 H3 H' : Hp} {Q : VK} {E : XK} {m c l a b D : Addr} {k : Nat} {v u x w : V} {S : Sh} {n : Nm}
def spAll (K : PySem.W.Frag) (C : Addr) : Sp := spF (fun x : Addr × Addr × Addr × Nat × V × Sh => [.ref x.1, x.2.2.2.2.1]) fun x H Q => MOk H x.1 x.2.1 x.2.2.1 x.2.2.2.1 ∧ x.2.2.2.1 < 2 ^ 27 ∧ ShAt K H x.2.2.2.2.1 x.2.2.2.2.2 ∧ Small x.2.2.2.2.2 ∧
  ∀ H', Keep x.1 x.2.2.1 H H' → MOk H' x.1 x.2.1 x.2.2.1 (x.2.2.2.1 + 120) → Q (.bl true) H'
theorem i_rng2 {σ : L2.St} {ta : TA} {R : It → Hp → Prop} (h : ta σ H fun vs H1 => ∃ i j : Int, vs = [.int i, .int j] ∧ (-(2 ^ 62) ≤ i ∧ i < 2 ^ 62 ∧ -(2 ^ 62) ≤ j ∧ j < 2 ^ 62) ∧ R (Itr i (j - i).toNat) H1) : iRng2 ta σ H R := h
theorem i_yes {σ : L2.St} {R : Bool → Hp → Prop} (h : R true H) : tYes σ H R := h
theorem pl_ex {f : Nat → Nm} : ∀ (i : Nat) (y : V) (H H' : Hp), PlAt K H y (f i) → Ex H H' → PlAt K H' y (f i) := fun _ _ _ _ h e => h.ex e
theorem nm_ex {f : Nat → Nm} : ∀ (i : Nat) (y : V) (H H' : Hp), NumAt K C H y (f i) → Ex H H' → NumAt K C H' y (f i) := fun _ _ _ _ h e => h.ex e
theorem plain_side {r s t : Int} (h : r ≠ 0) : plainN S r s = plainN S r t := by unfold plainN; rw [if_neg h, if_neg h]
theorem c_made (h : PlAt K H0 v n) (sm : Small n.S) (q : ∀ H', Stp H H' → Q (.bl true) H') (e : Ex H0 H := by infer_instance) : spMade K C [v] H Q E := ⟨⟨v, n⟩, rfl, h.ex e, sm, q⟩
theorem c_val (h : NumAt K C H0 v n) (h0 : n.st = 0) (sm : Small n.S) (q : ∀ H', Stp H H' → Q (.bl true) H') (e : Ex H0 H := by infer_instance) : spVal K C [v] H Q E := ⟨⟨v, n⟩, rfl, h.ex e, h0, sm, q⟩
theorem cat_at {xs ys : List V} {i : Nat} {z : V} (h : (xs ++ ys)[i]? = some z) : (i < xs.length ∧ xs[i]? = some z) ∨ (xs.length ≤ i ∧ ys[i - xs.length]? = some z) := by
  rcases Nat.lt_or_ge i xs.length with q | q
  · rw [List.getElem?_append_left q] at h
    exact .inl ⟨q, h⟩
  · rw [List.getElem?_append_right q] at h
    exact .inr ⟨q, h⟩
theorem none_back (s : Same H H') (h : H' D = none) : H D = none := by
  cases e : H D with
  | none => rfl
  | some o => have := s _ _ e; rw [h] at this; cases this
theorem cut_at {xs : List V} {i : Nat} {y : V} (h2 : 2 ≤ xs.length) (h : (cutV xs (some 1) (some (-1)))[i]? = some y) : xs[i + 1]? = some y ∧ i + 2 < xs.length := by
  unfold cutV at h
  have e1 : HT.sIx xs.length 0 (some 1) = 1 := by have := HT.sIx_nat xs.length 0 1; rw [show ((1 : Nat) : Int) = 1 from rfl] at this; rw [this]; omega
  have e2 : HT.sIx xs.length xs.length (some (-1)) = xs.length - 1 := by
    have := HT.clip_eq (-1) xs.length xs.length
    rw [if_pos (by decide)] at this
    omega
  rw [e1, e2] at h
  rcases Nat.lt_or_ge i (xs.length - 1 - 1) with q | q
  · rw [List.getElem?_take_of_lt q, List.getElem?_drop] at h
    exact ⟨by rw [Nat.add_comm]; exact h, by omega⟩
  · have : ((xs.drop 1).take (xs.length - 1 - 1))[i]? = none := List.getElem?_eq_none (by rw [List.length_take]; omega)
    rw [this] at h
    cases h
theorem eqv00 : PyData.eqv (.list []) (.list []) = true := by simp [PyData.eqv, PyData.eqvAll]
theorem i_ne00 {p r : Addr} (h1 : H p = some (.lst [])) (h2 : H r = some (.lst [])) (q : Q (.bl false) H) : rNeD K (.ref p) (.ref r) H Q := by
  refine ⟨.list [], .list [], .lst (SqL.of h1) .nil, .lst (SqL.of h2) .nil, shaped_ints [], shaped_ints [], ?_⟩
  rw [eqv00]
  exact q
theorem i_bmA {σ : L2.St} {T : String} {r : V → List V → Hp → VK → Prop} {to : TE} {t : TA} (h : to σ H fun x H1 => tyV K T x H1 ∧ t σ H1 fun xs H2 => r x xs H2 Q) : tBM K T r to t σ H Q := h
theorem cnt_of {N c : Nat} {fn last : Nat} (hc : c ≤ 3) (hN : N = 2 * last + 1) : (((List.range N).map fun (i : Nat) => ksOf (kc fn last ((i : Int) - last))).countP fun y => eqV (.str y) (.str (ksOf c))) = Dw.cnt fn last c := by
  subst hN
  unfold Dw.cnt
  rw [List.countP_map]
  congr 1
  funext i
  exact ks_eq _ (kc_le _ _ _) _ hc
theorem small_nat (h : S.Ok) (sm : Small S) : ∃ f d : Nat, f < 3 ∧ d < 4 ∧ S.fn = ((2 ^ (f + 1) : Nat) : Int) ∧ S.last = (((d + 2) * 2 ^ (f + 1) : Nat) : Int) := by
  have p2 := h.p2; have h0 := h.h0
  obtain ⟨h1, h2, h3⟩ := sm
  have e : S.fn = ((2 ^ (S.p.toNat - 2 + 1) : Nat) : Int) := by
    unfold Sh.fn
    rw [show S.p.toNat - 1 = S.p.toNat - 2 + 1 from by omega, ip_cast]
  refine ⟨S.p.toNat - 2, (S.hi - S.lo).toNat, by omega, by omega, e, ?_⟩
  unfold Sh.last
  rw [e, Int.natCast_mul]
  congr 1
  omega
theorem list_of {xs : List V} {N : Nat} {g : Nat → V} (hl : xs.length = N) (h : ∀ i y, xs[i]? = some y → y = g i) : xs = (List.range N).map g := by
  apply List.ext_getElem?
  intro i
  rcases Nat.lt_or_ge i N with q | q
  · have e : xs[i]? = some xs[i] := List.getElem?_eq_getElem (by omega)
    rw [e, h i _ e]
    simp [q]
  · rw [List.getElem?_eq_none (by omega), List.getElem?_eq_none (by simp; omega)]
end
abbrev st_l_all_right : Stmt := top 47
theorem sc_l_all_right : FnScope ["_law_m", "_law_form", "_law_top_here", "_law_half", "_law_found", "_law_place", "_law_back", "_law_k", "_law_numbers", "_law_plain", "_law_number", "_law_kinds", "_law_words"] ["_law_m", "_law_form"] (defScope st_l_all_right) := ⟨rfl, rfl, rfl, by decide +kernel, rfl, by decide +kernel, by decide +kernel⟩
section
variable {P : Program} {w : World} {K : PySem.W.Frag} {mg : Str → Option Value} {base : Heap} {C : Addr}
theorem ok_l_all_right {f : Addr} {fd : FuncData} (F : Fun K "_law_all_right" "_law_all_right" st_l_all_right f fd) (C__law_order_right : Cal P w K mg base 6 "_law_order_right" ["_law_m", "_law_found", "_law_numbers"] (spOrd K C)) (nb_len : mg "len" = none) (nb_set : mg "set" = none) (K_nan_1 : CalK P w K mg base 6 "nan" ["shape"] [] gV_nan_1 (spNan K C)) (M_Number_1 : CalM P w K mg base 4 "Number" C ["self", "shape", "sign", "significand", "exponent"] [] gV_Number_init_2 (spInit K C)) (T : NumC K C) (O_word : CalO P w K mg base 4 C "word" ["self"] (spWord K C)) (O_kind : CalO P w K mg base 2 C "kind" ["self"] (spKind K C)) (C__law_value_right : Cal P w K mg base 11 "_law_value_right" ["_law_number"] (spVal K C)) (C__law_made_right : Cal P w K mg base 9 "_law_made_right" ["_law_plain"] (spMade K C)) (C__law_ranked : Cal P w K mg base 2 "_law_ranked" ["_law_form", "_law_place", "_law_side"] (spRanked K)) (M_Number_1_sign : CalM P w K mg base 4 "Number" C ["self", "shape", "sign", "significand", "exponent"] ["sign"] gV_Number_init_2_sign (spInit K C)) (K_by_rank_2 : CalK P w K mg base 8 "by_rank" ["rank", "shape"] [] gV_by_rank_2 (spByRank K C)) (C__law_rank : Cal P w K mg base 2 "_law_rank" ["_law_plain"] (spRankP K)) (C__law_walk_right : Cal P w K mg base 11 "_law_walk_right" ["_law_form", "_law_found", "_law_back"] (spWalk K C)) (nb_range : mg "range" = none) (C__law_top : Cal P w K mg base 1 "_law_top" ["_law_form"] (spShInt K Dw.Sh.last)) :
    FnOk P w K mg base CX0 12 f fd ["_law_m", "_law_form"] (spAll K C) := by
  refine F.okW sc_l_all_right (spF.len fun _ => rfl) (fun cdv A outer s H vs Q E hr h => ?_)
  refine (?_ : ∃ t, Wr (PSs _ _ t) ∧ t _ _ _)
  obtain ⟨⟨m, c, l, k, v, S⟩, rfl, M, hk, hs, sm, q⟩ := h
  simp only at *
  have sh := hs.1
  have l4 := sh.last4; have f2 := sh.fn2; have f8 := small_fn sm
  have l40 := small_last sh sm
  have p2 := sh.p2; have p64 := sh.p64
  have mn : (many S : Int) = 2 * S.last + 1 := by unfold many; omega
  have fe : (1 : Int) * 2 ^ (S.p - 1).toNat = S.fn := by
    rw [Int.one_mul]
    unfold Sh.fn
    congr 1
    omega
  refine ⟨_, (wss_cons (ws_asg (we_tupA (wa_cons (we_cal C__law_top (hr.mono (by decide)) (by rfl) (wa_cons (wv 1) wa_nil)) (wa_cons (we_op op_shl we_int (we_op op_sub (we_ix ix_tup (wv 1) we_int (fun _ _ => rfl)) we_int)) wa_nil))) (wg_tup (n := 2) (by rfl) (wgs_cons (wg_name (i := 2) sc_l_all_right.nd rfl (Or.inr rfl)) (wgs_cons (wg_name (i := 3) sc_l_all_right.nd rfl (Or.inl rfl)) wgs_nil))))
        (wss_cons (ws_setLc (i := 4) (own := [("_law_place", 5)]) (g := gName 5) (by rfl) sc_l_all_right.nd rfl rfl (sw_true rfl rfl rfl (by decide +kernel)) (wi_range2 (by rfl) nb_range (wa_cons (we_op op_sub we_int (wv 2)) (wa_cons we_int wa_nil))) (blkOk_by (own := [("_law_place", 5)]) (N := ["_law_m", "_law_form", "_law_top_here", "_law_half", "_law_found", "_law_place", "_law_back", "_law_k", "_law_numbers", "_law_plain", "_law_number", "_law_kinds", "_law_words"]) (sc := defScope st_l_all_right) (by decide +kernel)) (fun _ _ _ _ _ => wg_name (i := 5) sc_l_all_right.nd rfl (Or.inl rfl)) (fun _ _ _ _ _ => wts_nil) (fun _ _ _ _ _ => (we_cal C__law_ranked (hr.mono (by decide)) (by rfl) (wa_cons (wv 1) (wa_cons (wv 5) (wa_cons we_int wa_nil))))))
        (wss_cons (ws_setLc (i := 6) (own := [("_law_k", 7)]) (g := gName 7) (by rfl) sc_l_all_right.nd rfl rfl (sw_true rfl rfl rfl (by decide +kernel)) (wi_range1 (by rfl) nb_range (wa_cons (we_op op_add (we_op op_mul we_int (wv 2)) we_int) wa_nil)) (blkOk_by (own := [("_law_k", 7)]) (N := ["_law_m", "_law_form", "_law_top_here", "_law_half", "_law_found", "_law_place", "_law_back", "_law_k", "_law_numbers", "_law_plain", "_law_number", "_law_kinds", "_law_words"]) (sc := defScope st_l_all_right) (by decide +kernel)) (fun _ _ _ _ _ => wg_name (i := 7) sc_l_all_right.nd rfl (Or.inl rfl)) (fun _ _ _ _ _ => wts_nil) (fun _ _ _ _ _ => (we_cal C__law_ranked (hr.mono (by decide)) (by rfl) (wa_cons (wv 1) (wa_cons (we_op op_sub (wv 2) (wv 7)) (wa_cons we_int wa_nil))))))
        (wss_cons (ws_set (i := 4) sc_l_all_right.nd rfl (Or.inl rfl) (we_op op_catL (wv 4) (we_lc (own := [("_law_place", 5)]) (g := gName 5) (by rfl) sc_l_all_right.nd (wi_range2 (by rfl) nb_range (wa_cons we_int (wa_cons (we_op op_add (wv 2) we_int) wa_nil))) (blkOk_by (own := [("_law_place", 5)]) (N := ["_law_m", "_law_form", "_law_top_here", "_law_half", "_law_found", "_law_place", "_law_back", "_law_k", "_law_numbers", "_law_plain", "_law_number", "_law_kinds", "_law_words"]) (sc := defScope st_l_all_right) (by decide +kernel)) (fun _ _ _ _ _ => wg_name (i := 5) sc_l_all_right.nd rfl (Or.inl rfl)) (fun _ _ _ _ _ => wts_nil) (fun _ _ _ _ _ => (we_cal C__law_ranked (hr.mono (by decide)) (by rfl) (wa_cons (wv 1) (wa_cons (wv 5) (wa_cons we_int wa_nil))))))))
        (wss_cons (ws_if (wt_not (wt_val (we_cal C__law_walk_right (hr.mono (by decide)) (by rfl) (wa_cons (wv 1) (wa_cons (wv 4) (wa_cons (wv 6) wa_nil)))))) (wss_one (ws_ret we_bl)) wss_nil)
        (wss_cons (ws_setLc (i := 8) (own := [("_law_plain", 9)]) (g := gName 9) (by rfl) sc_l_all_right.nd rfl rfl (sw_true rfl rfl rfl (by decide +kernel)) (wi_list (wv 4)) (blkOk_by (own := [("_law_plain", 9)]) (N := ["_law_m", "_law_form", "_law_top_here", "_law_half", "_law_found", "_law_place", "_law_back", "_law_k", "_law_numbers", "_law_plain", "_law_number", "_law_kinds", "_law_words"]) (sc := defScope st_l_all_right) (by decide +kernel)) (fun _ _ _ _ _ => wg_name (i := 9) sc_l_all_right.nd rfl (Or.inl rfl)) (fun _ _ _ _ _ => wts_nil) (fun _ _ _ _ _ => (we_calD K_by_rank_2 (hr.mono (by decide)) (by rfl) (wa_cons (we_cal C__law_rank (hr.mono (by decide)) (by rfl) (wa_cons (wv 9) wa_nil)) (wa_cons (wv 1) wa_nil)))))
        (wss_cons (ws_asg (we_makeK M_Number_1_sign (hr.mono (by decide)) (by rfl) (wa_cons (wv 1) wa_nil) (wk_cons we_int wk_nil)) (wg_sub (wv 8) (wv 2) set_list))
        (wss_cons (ws_if (wt_cmpR (op_neD hr.units) (we_lc (own := [("_law_plain", 9)]) (g := gName 9) (by rfl) sc_l_all_right.nd (wi_list (we_op op_catL (wv 4) (we_lstA (wa_cons (we_cal C__law_ranked (hr.mono (by decide)) (by rfl) (wa_cons (wv 1) (wa_cons we_int (wa_cons we_int wa_nil)))) wa_nil)))) (blkOk_by (own := [("_law_plain", 9)]) (N := ["_law_m", "_law_form", "_law_top_here", "_law_half", "_law_found", "_law_place", "_law_back", "_law_k", "_law_numbers", "_law_plain", "_law_number", "_law_kinds", "_law_words"]) (sc := defScope st_l_all_right) (by decide +kernel)) (fun _ _ _ _ _ => wg_name (i := 9) sc_l_all_right.nd rfl (Or.inl rfl)) (fun _ _ _ _ _ => (wts_one (wt_not (wt_val (we_cal C__law_made_right (hr.mono (by decide)) (by rfl) (wa_cons (wv 9) wa_nil)))))) (fun _ _ _ _ _ => (wv 9))) (we_lstA wa_nil) (nomark _)) (wss_one (ws_ret we_bl)) wss_nil)
        (wss_cons (ws_if (wt_cmpR (op_neD hr.units) (we_lc (own := [("_law_number", 10)]) (g := gName 10) (by rfl) sc_l_all_right.nd (wi_list (we_op op_catL (we_slice sl_listA (wv 8) (wo_some we_int) (wo_some (we_un un_neg we_int))) (we_lstA (wa_cons (we_makeD M_Number_1 (hr.mono (by decide)) (by rfl) (wa_cons (wv 1) wa_nil)) wa_nil)))) (blkOk_by (own := [("_law_number", 10)]) (N := ["_law_m", "_law_form", "_law_top_here", "_law_half", "_law_found", "_law_place", "_law_back", "_law_k", "_law_numbers", "_law_plain", "_law_number", "_law_kinds", "_law_words"]) (sc := defScope st_l_all_right) (by decide +kernel)) (fun _ _ _ _ _ => wg_name (i := 10) sc_l_all_right.nd rfl (Or.inl rfl)) (fun _ _ _ _ _ => (wts_one (wt_not (wt_val (we_cal C__law_value_right (hr.mono (by decide)) (by rfl) (wa_cons (wv 10) wa_nil)))))) (fun _ _ _ _ _ => (wv 10))) (we_lstA wa_nil) (nomark _)) (wss_one (ws_ret we_bl)) wss_nil)
        (wss_cons (ws_setLc (i := 11) (own := [("_law_number", 10)]) (g := gName 10) (by rfl) sc_l_all_right.nd rfl rfl (sw_true rfl rfl rfl (by decide +kernel)) (wi_list (wv 8)) (blkOk_by (own := [("_law_number", 10)]) (N := ["_law_m", "_law_form", "_law_top_here", "_law_half", "_law_found", "_law_place", "_law_back", "_law_k", "_law_numbers", "_law_plain", "_law_number", "_law_kinds", "_law_words"]) (sc := defScope st_l_all_right) (by decide +kernel)) (fun _ _ _ _ _ => wg_name (i := 10) sc_l_all_right.nd rfl (Or.inl rfl)) (fun _ _ _ _ _ => wts_nil) (fun _ _ _ _ _ => (we_meth0 O_kind (hr.mono (by decide)) (wv 10))))
        (wss_cons (ws_if (wt_cmpR (op_neD hr.units) (we_lstA (wa_cons (we_bm PySem.F.plainAttrs_list PySem.F.slot_list_count PySem.F.type_list_count mt_cnt (wv 11) (wa_cons we_str wa_nil)) (wa_cons (we_bm PySem.F.plainAttrs_list PySem.F.slot_list_count PySem.F.type_list_count mt_cnt (wv 11) (wa_cons we_str wa_nil)) (wa_cons (we_bm PySem.F.plainAttrs_list PySem.F.slot_list_count PySem.F.type_list_count mt_cnt (wv 11) (wa_cons we_str wa_nil)) wa_nil)))) (we_lstA (wa_cons (we_op op_sub (we_op op_mul we_int (wv 3)) we_int) (wa_cons we_int (wa_cons we_int wa_nil)))) (nomark _)) (wss_one (ws_ret we_bl)) wss_nil)
        (wss_cons (ws_setLc (i := 12) (own := [("_law_number", 10)]) (g := gName 10) (by rfl) sc_l_all_right.nd rfl rfl (sw_true rfl rfl rfl (by decide +kernel)) (wi_list (we_op op_catL (wv 8) (we_lstA (wa_cons (we_makeD M_Number_1 (hr.mono (by decide)) (by rfl) (wa_cons (wv 1) wa_nil)) (wa_cons (we_calD K_nan_1 (hr.mono (by decide)) (by rfl) (wa_cons (wv 1) wa_nil)) wa_nil))))) (blkOk_by (own := [("_law_number", 10)]) (N := ["_law_m", "_law_form", "_law_top_here", "_law_half", "_law_found", "_law_place", "_law_back", "_law_k", "_law_numbers", "_law_plain", "_law_number", "_law_kinds", "_law_words"]) (sc := defScope st_l_all_right) (by decide +kernel)) (fun _ _ _ _ _ => wg_name (i := 10) sc_l_all_right.nd rfl (Or.inl rfl)) (fun _ _ _ _ _ => wts_nil) (fun _ _ _ _ _ => (we_meth0 O_word (hr.mono (by decide)) (wv 10))))
        (wss_one (ws_ret (we_and (we_cmpR op_eq (we_callB call_lenS (by rfl) nb_len (by decide +kernel) (wa_cons (we_callTy (call_setI rfl) (by rfl) nb_set (by decide +kernel) (wa_cons (wv 12) wa_nil)) wa_nil)) (we_callB call_len_seq (by rfl) nb_len (by decide +kernel) (wa_cons (wv 12) wa_nil)) (nomark _)) (we_one (we_cal C__law_order_right (hr.mono (by decide)) (by rfl) (wa_cons (wv 0) (wa_cons (wv 4) (wa_cons (wv 8) wa_nil)))))))))))))))))))), ?_⟩
  (try simp only [cx_K, cx_K2])
  walk_at "nm0"
  with_reducible refine i_seq ?_
  walk_at "nm0"
  rw [fe]
  refine i_born2 (K := K) (fun p0 Hb sb eb => ?_) rfl
  walk_at "nm0"
  with_reducible refine i_seq ?_
  walk_at "nm0"
  -- found, below
  show iRng2 _ _ _ _
  refine i_rng2 ?_
  walk_at "nm0"
  refine ⟨_, _, rfl, ⟨by omega, by omega, by omega, by omega⟩, fun D1 hD1 => lcR (P := fun i y H => PlAt K H y (plainN S (0 - S.last + (i : Nat)) 1)) hD1 (by omega) pl_ex ?_ ?_⟩
  · intro i H1 T U hi s1 k1
    refine ⟨rfl, i_yes (iteT ?_)⟩
    walk_at "nm0"
    exact c_ranked hs k1 (by omega) (by omega) (.inr rfl)
  intro H1 ys s1 h1 ly fy
  walk_at "nm0"
  with_reducible refine i_seq ?_
  walk_at "nm0"
  -- back
  show iRng1 _ _ _ _
  walk_at "nm0"
  refine ⟨_, rfl, by omega, by omega, fun D2 hD2 => lcR (P := fun i y H => PlAt K H y (plainN S (S.last - (0 + (i : Nat))) 0)) hD2 (by omega) pl_ex ?_ ?_⟩
  · intro i H2 T U hi s2 k2
    refine ⟨rfl, i_yes (iteT ?_)⟩
    walk_at "nm0"
    exact c_ranked hs k2 (by omega) (by omega) (.inl rfl)
  intro H2 zs s2 h2 lz fz
  walk_at "nm0"
  with_reducible refine i_seq ?_
  walk_at "nm0"
  -- found, above
  show iRng2 _ _ _ _
  refine i_rng2 ?_
  walk_at "nm0"
  refine ⟨_, _, rfl, ⟨by omega, by omega, by omega, by omega⟩, fun D3 hD3 => lcR (P := fun i y H => PlAt K H y (plainN S (1 + (i : Nat)) 0)) hD3 (by omega) pl_ex ?_ ?_⟩
  · intro i H3 T U hi s3 k3
    refine ⟨rfl, i_yes (iteT ?_)⟩
    walk_at "nm0"
    exact c_ranked hs k3 (by omega) (by omega) (.inl rfl)
  intro H3 ws s3 h3 lw fw
  have h13 := s3.s _ _ (s2.s _ _ h1)
  refine ⟨_, _, _, _, rfl, rfl, h13, h3, Nat.le_trans (show ys.length + ws.length ≤ 1000 by omega) (Nat.le_of_lt (small1000 (Nat.le_refl _))), fun F H4 nF s4 h4 => ?_⟩
  have s4' : Stp H3 H4 := ⟨s4⟩
  have lx : (ys ++ ws).length = many S := by rw [List.length_append]; omega
  have fx : ∀ i x, (ys ++ ws)[i]? = some x → PlAt K H4 x (fUp S i) := fun i x hx => by
    rcases cat_at hx with ⟨q1, q2⟩ | ⟨q1, q2⟩
    · have := (fy i x q2).ex (inferInstance : Ex H1 H4)
      unfold fUp
      rw [show (i : Int) - S.last = 0 - S.last + (i : Nat) from by omega]
      exact this
    · have := (fw _ x q2).ex (inferInstance : Ex H3 H4)
      unfold fUp
      rw [show (1 : Int) + ((i - ys.length : Nat) : Int) = (i : Int) - S.last from by omega] at this
      rw [plain_side (t := 0) (by omega)]
      exact this
  have fz' : ∀ i x, zs[i]? = some x → PlAt K H4 x (fDn S i) := fun i x hx => by
    have := (fz i x hx).ex (inferInstance : Ex H2 H4)
    unfold fDn
    rw [show S.last - (0 + (i : Nat)) = S.last - (i : Nat) from by omega] at this
    exact this
  have h24 := s4 _ _ (s3.s _ _ h2)
  have st4 : Stp H H4 := stpS
  generalize ys ++ ws = xs at *
  clear h13 h3 h1 fy fw lw ly fz
  walk_at "nm0"
  with_reducible refine i_seq ?_
  walk_at "nm0"
  refine ⟨⟨v, .ref F, .ref D2, S⟩, rfl, hs.ex inferInstance, sm, ⟨F, xs, rfl, h4, lx, fx⟩, ⟨D2, zs, rfl, h24, by show zs.length = many S; omega, fz'⟩, fun H5 s5 => ?_⟩
  walk_at "nm0"
  refine ifF' rfl ?_
  walk_at "nm0"
  with_reducible refine i_seq ?_
  walk_at "nm0"
  -- numbers
  show iList K _ _ _ _
  walk_at "nm0"
  have st5 : Stp H H5 := stpS
  have h45 := s5.s _ _ h4
  refine ⟨F, rfl, ⟨xs, SqL.of h45⟩, fun D4 hD4 => lcL (K := K) (a := F) (xs := xs) (P := fun i y H => NumAt K C H y (rankN S (fUp S i).rank)) hD4 h45 (by omega) nm_ex ?_ ?_⟩
  · intro i x H6 T U hx s6 k6
    have hi := (List.getElem?_eq_some_iff.mp hx).1
    have px := fx i x hx
    obtain ⟨o1, rk1, S1, t1, _⟩ := up_at sh (show i < many S by omega)
    refine ⟨rfl, i_yes (iteT ?_)⟩
    walk_at "nm0"
    dsimp only [gV_by_rank_2]
    exact c_byRank hs (by omega) (by omega) k6
  intro H6 ns s6 h6 ln fn
  walk_at "nm0"
  with_reducible refine i_seq ?_
  walk_at "nm0"
  refine c_new (n := S.zero 1) (bb := true) hs (sh.zeroOk (.inr rfl)) rfl (fun _ => rfl) fun z7 H7 s7 m7 => ?_
  walk_at "nm0"
  have h67 := s7.s _ _ h6
  have nD : H D4 = none := none_back st5.s hD4
  have nF' : H F = none := none_back (inferInstance : Sm H H3).s nF
  have mD := M.far nD
  have mF := M.far nF'
  have FD : F ≠ D4 := ne_of_none h45 hD4
  have ix : ixN ns.length S.last = some S.last.toNat := by
    unfold ixN
    rw [if_pos (by omega), if_pos (by omega)]
  refine ⟨_, rfl, _, rfl, D4, ns, S.last, S.last.toNat, rfl, rfl, h67, ix, ?_⟩
  have sm7 : Sm H H7 := inferInstance
  have x7 : Ex H4 H7 := inferInstance
  have x67 : Ex H6 H7 := inferInstance
  have x78 : Ex H7 (upd H7 D4 (.lst (ns.set S.last.toNat z7))) := ex_putD h67
  have st8 : Stp H (upd H7 D4 (.lst (ns.set S.last.toNat z7))) := ⟨same_put nD sm7.s⟩
  have h8F : (upd H7 D4 (.lst (ns.set S.last.toNat z7))) F = some (.lst xs) := by rw [upd_ne FD]; exact s7.s _ _ (s6.s _ _ h45)
  have h8D : (upd H7 D4 (.lst (ns.set S.last.toNat z7))) D4 = some (.lst (ns.set S.last.toNat z7)) := upd_same
  have fx8 : ∀ i x, xs[i]? = some x → PlAt K (upd H7 D4 (.lst (ns.set S.last.toNat z7))) x (fUp S i) := fun i x hx => ((fx i x hx).ex x7).ex x78
  have fn8 : ∀ i y, (ns.set S.last.toNat z7)[i]? = some y → NumAt K C (upd H7 D4 (.lst (ns.set S.last.toNat z7))) y (fUp S i) := fun i y hy => by
    have hi := (List.getElem?_eq_some_iff.mp hy).1
    rw [List.length_set] at hi
    by_cases z : i = S.last.toNat
    · rw [z, List.getElem?_set_self (by omega)] at hy
      cases hy
      have e : fUp S i = S.zero 1 := by unfold fUp plainN; rw [if_pos (by omega)]
      rw [e]
      exact m7.ex x78
    · rw [List.getElem?_set_ne (by omega)] at hy
      have := ((fn i y hy).ex x67).ex x78
      obtain ⟨o1, rk1, S1, t1, _⟩ := up_at sh (show i < many S by omega)
      have e : fUp S i = rankN S (fUp S i).rank := by rw [rk1]; unfold fUp plainN; rw [if_neg (by omega)]
      rw [e]
      exact this
  have ln8 : (ns.set S.last.toNat z7).length = many S := by rw [List.length_set]; omega
  generalize ns.set S.last.toNat z7 = qs at *
  generalize upd H7 D4 (.lst qs) = H8 at *
  clear fx fn ix h67 h6 x7 x67 x78 sm7 m7 s7
  have M8 := M.same st8.s
  walk_at "nm0"
  with_reducible refine i_seq ?_
  walk_at "nm0"
  -- made
  show iList K _ _ _ _
  walk_at "nm0"
  refine c_ranked hs (fun y9 H9 s9 p9 => ?_) (by omega) (by omega) (.inl rfl)
  walk_at "nm0"
  refine i_bornL rfl fun L1 G1 n1 g1 e1 => ?_
  refine ⟨_, _, _, _, rfl, rfl, g1.s _ _ (s9.s _ _ h8F), e1, Nat.le_trans (show xs.length + 1 ≤ 1000 by omega) (Nat.le_of_lt (small1000 (Nat.le_refl _))), fun A1 H10 nA sA hA => ?_⟩
  have sA' : Stp G1 H10 := ⟨sA⟩
  have sm0 : Small (plainN S 0 0).S := by have e := (plain_ok sh (r := 0) (s := 0) (by omega) (by omega) (.inl rfl)).2.2.1; rw [e]; exact sm
  refine ⟨A1, rfl, ⟨_, SqL.of hA⟩, fun D5 hD5 => lcE (K := K) (a := A1) hD5 hA ?_ ?_⟩
  · intro i x H11 T U hx s11 k11
    refine ⟨rfl, ?_⟩
    walk_at "nm0"
    rcases cat_at hx with ⟨q1, q2⟩ | ⟨q1, q2⟩
    · obtain ⟨o1, rk1, S1, t1, _⟩ := up_at sh (show i < many S by omega)
      refine c_made (fx8 i x q2) (by rw [S1]; exact sm) fun H12 s12 => ?_
      walk_at "nm0"
      exact ifF' rfl (k11 _ stpS)
    · obtain rfl : x = y9 := by
        rcases (show i - xs.length = 0 ∨ 0 < i - xs.length by omega) with z | z
        · rw [z] at q2
          simpa using q2.symm
        · rw [List.getElem?_eq_none (by simp only [List.length_cons, List.length_nil]; omega)] at q2
          cases q2
      refine c_made p9 sm0 fun H12 s12 => ?_
      walk_at "nm0"
      exact ifF' rfl (k11 _ stpS)
  intro H11 s11 h11
  walk_at "nm0"
  refine i_bornL rfl fun L2 G2 n2 g2 e2 => ?_
  refine i_ne00 (g2.s _ _ h11) e2 ?_
  walk_at "nm0"
  refine ifF' rfl ?_
  walk_at "nm0"
  with_reducible refine i_seq ?_
  walk_at "nm0"
  -- values
  show iList K _ _ _ _
  walk_at "nm0"
  refine ⟨D4, qs, rfl, SqL.of ((inferInstance : Sm H8 G2).s _ _ h8D), fun B1 H12 nB sB hB => ?_⟩
  have sB' : Stp G2 H12 := ⟨sB⟩
  walk_at "nm0"
  refine c_new (n := S.zero 0) (bb := true) hs (sh.zeroOk (.inl rfl)) rfl (fun _ => rfl) fun y13 H13 s13 m13 => ?_
  walk_at "nm0"
  refine i_bornL rfl fun L3 G3 n3 g3 e3 => ?_
  have cl := cutV_length qs (some 1) (some (-1))
  refine ⟨_, _, _, _, rfl, rfl, g3.s _ _ (s13.s _ _ hB), e3, Nat.le_trans (show (cutV qs (some 1) (some (-1))).length + 1 ≤ 1000 by omega) (Nat.le_of_lt (small1000 (Nat.le_refl _))), fun A2 H14 nA2 sA2 hA2 => ?_⟩
  have sA2' : Stp G3 H14 := ⟨sA2⟩
  refine ⟨A2, rfl, ⟨_, SqL.of hA2⟩, fun D6 hD6 => lcE (K := K) (a := A2) hD6 hA2 ?_ ?_⟩
  · intro i x H15 T U hx s15 k15
    refine ⟨rfl, ?_⟩
    walk_at "nm0"
    rcases cat_at hx with ⟨q1, q2⟩ | ⟨q1, q2⟩
    · obtain ⟨r1, r2⟩ := cut_at (by omega) q2
      obtain ⟨o1, rk1, S1, t1, u1⟩ := up_at sh (show i + 1 < many S by omega)
      have f0 : (fUp S (i + 1)).st = 0 := by
        have := o1.st2
        have n1 : (fUp S (i + 1)).st ≠ 1 := fun z => by
          have := u1.mp z
          unfold absI at this
          split at this <;> omega
        omega
      refine c_val (fn8 _ x r1) f0 (by rw [S1]; exact sm) fun H16 s16 => ?_
      walk_at "nm0"
      exact ifF' rfl (k15 _ stpS)
    · obtain rfl : x = y13 := by
        rcases (show i - (cutV qs (some 1) (some (-1))).length = 0 ∨ 0 < i - (cutV qs (some 1) (some (-1))).length by omega) with z | z
        · rw [z] at q2
          simpa using q2.symm
        · rw [List.getElem?_eq_none (by simp only [List.length_cons, List.length_nil]; omega)] at q2
          cases q2
      refine c_val m13 rfl sm fun H16 s16 => ?_
      walk_at "nm0"
      exact ifF' rfl (k15 _ stpS)
  intro H15 s15 h15
  walk_at "nm0"
  refine i_bornL rfl fun L4 G4 n4 g4 e4 => ?_
  refine i_ne00 (g4.s _ _ h15) e4 ?_
  walk_at "nm0"
  refine ifF' rfl ?_
  walk_at "nm0"
  with_reducible refine i_seq ?_
  walk_at "nm0"
  -- kinds
  have st16 : Stp H8 G4 := stpS
  clear hB sB' sB nB m13 s13 g3 e3 n3 hA2 sA2 sA2' nA2 s15 h15 hD6 n4 g4 e4 hA sA nA sA' e1 g1 n1 s11 h11 hD5 n2 g2 e2 p9 s9 sm0 cl
  show iList K _ _ _ _
  walk_at "nm0"
  have h16 := st16.s _ _ h8D
  refine ⟨D4, rfl, ⟨qs, SqL.of h16⟩, fun D7 hD7 => lcL (K := K) (a := D4) (xs := qs) (P := fun i y H => y = .str (ksOf (kc S.fn S.last ((i : Int) - S.last)))) hD7 h16 (by omega) (fun _ _ _ _ h _ => h) ?_ ?_⟩
  · intro i x H17 T U hx s17 k17
    have hi := (List.getElem?_eq_some_iff.mp hx).1
    have nx := fn8 i x hx
    refine ⟨rfl, i_yes (iteT ?_)⟩
    walk_at "nm0"
    exact k17 _ _ stpS (by rw [kind_up sh (by omega)])
  intro H17 ks s17 h17 lk fk
  walk_at "nm0"
  with_reducible refine i_seq ?_
  walk_at "nm0"
  obtain ⟨f, d, hf, hd, ef, el⟩ := small_nat sh sm
  obtain ⟨c2, c1, c0⟩ := cnt_all f hf d hd
  have lk' : ks.length = many S := by omega
  have ek := list_of (g := fun (i : Nat) => V.str (ksOf (kc S.fn S.last ((i : Int) - S.last)))) lk' fk
  have ek2 : ks = ((List.range (many S)).map fun (i : Nat) => ksOf (kc S.fn S.last ((i : Int) - S.last))).map V.str := by rw [ek, List.map_map]; rfl
  have sq : SqL K H17 D7 (((List.range (many S)).map fun (i : Nat) => ksOf (kc S.fn S.last ((i : Int) - S.last))).map V.str) := by rw [← ek2]; exact SqL.of h17
  have ty : tyV K "list" (.ref D7) H17 := .inl ⟨rfl, ks, SqL.of h17⟩
  have cn : ∀ c : Nat, c ≤ 3 → (((List.range (many S)).map fun (i : Nat) => ksOf (kc S.fn S.last ((i : Int) - S.last))).countP fun y => eqV (.str y) (.str (ksOf c))) = Dw.cnt (2 ^ (f + 1)) ((d + 2) * 2 ^ (f + 1)) c := fun c hc => by
    rw [ef, el]
    exact cnt_of hc (by unfold many; omega)
  refine i_bmA ?_
  walk_at "nm0"
  refine ⟨ty, ?_⟩
  walk_at "nm0"
  refine ⟨D7, _, _, rfl, rfl, sq, ?_⟩
  rw [show (("subnormal" : String) : Str) = ksOf 2 from rfl, cn 2 (by decide), c2]
  walk_at "nm0"
  refine i_bmA ?_
  walk_at "nm0"
  refine ⟨ty, ?_⟩
  walk_at "nm0"
  refine ⟨D7, _, _, rfl, rfl, sq, ?_⟩
  rw [show (("zero" : String) : Str) = ksOf 1 from rfl, cn 1 (by decide), c1]
  walk_at "nm0"
  refine i_bmA ?_
  walk_at "nm0"
  refine ⟨ty, ?_⟩
  walk_at "nm0"
  refine ⟨D7, _, _, rfl, rfl, sq, ?_⟩
  rw [show (("infinite" : String) : Str) = ksOf 0 from rfl, cn 0 (by decide), c0]
  walk_at "nm0"
  refine i_bornL rfl fun L5 G5 n5 g5 e5 => ?_
  walk_at "nm0"
  refine i_bornL rfl fun L6 G6 n6 g6 e6 => ?_
  have pw : 1 ≤ 2 ^ (f + 1) := Nat.one_le_two_pow
  have es : ((2 * 2 ^ (f + 1) - 2 : Nat) : Int) = 2 * S.fn - 2 := by rw [ef]; omega
  refine ⟨.list ([((2 * 2 ^ (f + 1) - 2 : Nat) : Int), ((1 : Nat) : Int), ((2 : Nat) : Int)].map PyData.int), .list ([2 * S.fn - 2, 1, 2].map PyData.int), .lst (SqL.of (g6.s _ _ e5)) (dp_ints [((2 * 2 ^ (f + 1) - 2 : Nat) : Int), ((1 : Nat) : Int), ((2 : Nat) : Int)]), .lst (SqL.of e6) (dp_ints [2 * S.fn - 2, 1, 2]), shaped_ints _, shaped_ints _, ?_⟩
  rw [es]
  have ev : PyData.eqv (.list ([2 * S.fn - 2, ((1 : Nat) : Int), ((2 : Nat) : Int)].map PyData.int)) (.list ([2 * S.fn - 2, 1, 2].map PyData.int)) = true := by simp [PyData.eqv, PyData.eqvAll]
  rw [ev]
  walk_at "nm0"
  refine ifF' rfl ?_
  walk_at "nm0"
  clear ev es pw cn ty sq ek ek2 c0 c1 c2 e5 n5 e6 n6
  with_reducible refine i_seq ?_
  walk_at "nm0"
  -- words
  show iList K _ _ _ _
  walk_at "nm0"
  refine c_new (n := S.zero 0) (bb := true) hs (sh.zeroOk (.inl rfl)) rfl (fun _ => rfl) fun y18 H18 s18 m18 => ?_
  walk_at "nm0"
  dsimp only [gV_nan_1]
  refine c_nan hs fun y19 H19 s19 m19 => ?_
  walk_at "nm0"
  refine i_bornL rfl fun L7 G7 n7 g7 e7 => ?_
  refine ⟨_, _, _, _, rfl, rfl, (inferInstance : Sm H8 G7).s _ _ h8D, e7, Nat.le_trans (show qs.length + 2 ≤ 1000 by omega) (Nat.le_of_lt (small1000 (Nat.le_refl _))), fun A3 H20 nA3 sA3 hA3 => ?_⟩
  have sA3' : Stp G7 H20 := ⟨sA3⟩
  refine ⟨A3, rfl, ⟨_, SqL.of hA3⟩, fun D8 hD8 => lcL (K := K) (a := A3) (P := fun i y H => y = .int (wdF S i)) hD8 hA3 (by rw [List.length_append]; simp only [List.length_cons, List.length_nil]; omega) (fun _ _ _ _ h _ => h) ?_ ?_⟩
  · intro i x H21 T U hx s21 k21
    refine ⟨rfl, i_yes (iteT ?_)⟩
    rcases cat_at hx with ⟨q1, q2⟩ | ⟨q1, q2⟩
    · have nx := fn8 i x q2
      walk_at "nm0"
      exact k21 _ _ stpS (by unfold wdF; rw [if_pos (by unfold many at ln8; omega)])
    · rcases (show i - qs.length = 0 ∨ i - qs.length = 1 ∨ 1 < i - qs.length by omega) with z | z | z
      · rw [z] at q2
        obtain rfl : x = y18 := by simpa using q2.symm
        walk_at "nm0"
        exact k21 _ _ stpS (by unfold wdF; unfold many at ln8; rw [if_neg (by omega), if_pos (by omega)])
      · rw [z] at q2
        obtain rfl : x = y19 := by simpa using q2.symm
        walk_at "nm0"
        exact k21 _ _ stpS (by unfold wdF; unfold many at ln8; rw [if_neg (by omega), if_neg (by omega)])
      · rw [List.getElem?_eq_none (by simp only [List.length_cons, List.length_nil]; omega)] at q2
        cases q2
  intro H21 ws2 s21 h21 lw2 fw2
  rw [List.length_append] at lw2
  simp only [List.length_cons, List.length_nil] at lw2
  walk_at "nm0"
  have ew := list_of (g := fun i => V.int (wdF S i)) lw2 fw2
  have ew2 : ws2 = ((List.range (qs.length + 2)).map (wdF S)).map V.int := by rw [ew, List.map_map]; rfl
  have nd2 : ((List.range (qs.length + 2)).map (wdF S)).Nodup := by
    unfold many at ln8
    rw [List.Nodup, List.pairwise_iff_getElem]
    intro i j hi hj hij
    rw [List.length_map, List.length_range] at hi hj
    simp only [List.getElem_map, List.getElem_range]
    exact wd_inj sh hij (by omega)
  have lr : ((List.range (qs.length + 2)).map (wdF S)).length = qs.length + 2 := by rw [List.length_map, List.length_range]
  refine ⟨D8, _, rfl, (by rw [← ew2]; exact SqL.of h21), by omega, nd2, fun p22 S22 n22 => ?_⟩
  have e22 : (upd H21 p22 (.set S22 ((List.range (qs.length + 2)).map (wdF S)).length)) p22 = some (.set S22 ((List.range (qs.length + 2)).map (wdF S)).length) := upd_same
  have s22 : Stp H21 (upd H21 p22 (.set S22 ((List.range (qs.length + 2)).map (wdF S)).length)) := ⟨same_upd n22⟩
  rw [lr] at *
  generalize upd H21 p22 (.set S22 (qs.length + 2)) = H22 at *
  walk_at "nm0"
  refine ⟨p22, S22, _, rfl, e22, ?_⟩
  walk_at "nm0"
  refine ⟨D8, _, rfl, .inl (SqL.of (s22.s _ _ h21)), ?_⟩
  walk_at "nm0"
  refine ifT' (decide_eq_true (by rw [lw2])) ?_
  walk_at "nm0"
  have sm22 : Sm H8 H22 := inferInstance
  have x22 : Ex H8 H22 := inferInstance
  have sf : Sm H H22 := ⟨fun b o e => sm22.s b o (st8.s b o e)⟩
  exact ⟨⟨m, c, l, k, F, D4, S⟩, rfl, M8.same sm22.s, by show k < 2 ^ 28; omega, mF.2.2.symm, mD.2.2.symm, sh, sm, ⟨F, xs, rfl, sm22.s _ _ h8F, lx, fun i x hx => (fx8 i x hx).ex x22⟩, ⟨D4, qs, rfl, sm22.s _ _ h8D, ln8, fun i y hy => (fn8 i y hy).ex x22⟩, fun H' kp M' => q H' (fun b o e h1 h2 => kp b o (sf.s b o e) h1 h2) M'⟩
end
end K17

set_option Elab.async false
set_option linter.all false
set_option maxRecDepth 100000
set_option maxHeartbeats 4000000
namespace K17
open PySem PySem.Spec PyProof.Rows L2 Dw
local macro_rules | `(tactic| walk_at "nm") => `(tactic| repeat' (first
  | with_reducible refine i_seq ?_ | with_reducible refine i_asg ?_ | with_reducible refine i_ret ?_ | with_reducible refine i_drop ?_ | with_reducible refine i_ifS ?_ | with_reducible refine i_next ?_
  | with_reducible refine i_cons ?_ | with_reducible refine i_nil ?_ | with_reducible refine i_op ?_ | with_reducible refine i_un ?_ | with_reducible refine i_c ?_
  | with_reducible refine i_var ?_
  | with_reducible refine i_rI0 ?_ | with_reducible refine i_rU ?_
  | with_reducible refine i_rIa ?_
  | with_reducible refine i_test ?_ | with_reducible refine i_b ?_ | with_reducible refine i_bl ?_ | with_reducible refine i_if ?_ | with_reducible refine i_and ?_ | with_reducible refine i_or ?_ | with_reducible refine i_not ?_
  | with_reducible refine i_andV ?_ | with_reducible refine i_orV ?_ | with_reducible refine i_notV ?_ | with_reducible refine i_cb ?_ | with_reducible refine i_tup ?_ | with_reducible refine i_lst ?_ | with_reducible refine i_dget ?_
  | with_reducible refine i_gname ?_ | with_reducible refine i_chain ?_ | with_reducible refine i_eqI ?_ | with_reducible refine i_neI ?_ | with_reducible refine i_sl ?_ | with_reducible refine i_nopart ?_ | with_reducible refine i_part ?_ | with_reducible refine i_int ?_ | with_reducible refine i_par ?_ | with_reducible refine i_two ?_ | with_reducible refine i_strs ?_ | with_reducible refine i_isB ?_ | with_reducible refine i_isntB ?_ | with_reducible refine i_for ?_ | with_reducible refine i_itup ?_ | with_reducible refine i_ilist ?_ | with_reducible refine i_rng1 ?_
  | with_reducible refine i_fld ?_ | with_reducible refine f_sign (by assumption) (by assumption) ?_ | with_reducible refine f_m (by assumption) (by assumption) ?_ | with_reducible refine f_e (by assumption) (by assumption) ?_ | with_reducible refine f_state (by assumption) (by assumption) ?_
  | (with_reducible refine f_shape (by assumption) (by assumption) ?_; intro _ _)
  | with_reducible refine i_meth0 ?_ | with_reducible refine m_num (by assumption) ?_ | with_reducible refine i_call ?_ | with_reducible refine i_callP ?_ | with_reducible refine i_eqS ?_
  | with_reducible refine i_ixSh0 (by assumption) ?_ | with_reducible refine i_ixSh1 (by assumption) ?_ | with_reducible refine i_ixSh2 (by assumption) ?_ | with_reducible refine g_sh3 (by assumption) ?_ | with_reducible refine g_two (by assumption) ?_
  | with_reducible refine i_ixTup (by assumption) ?_
  | with_reducible refine i_fdB ?_ | with_reducible refine i_bm0 ?_ | with_reducible refine i_bits ?_ | with_reducible refine i_max ?_ | with_reducible refine i_min ?_ | with_reducible refine i_abs ?_ | with_reducible refine i_mul ?_ | with_reducible refine i_shl ?_
  | with_reducible refine c_shape (by assumption) ?_ | with_reducible refine c_shint (by assumption) ?_ | with_reducible refine c_nmint (by assumption) ?_ | with_reducible refine c_kind (by assumption) ?_ | with_reducible refine c_wantNum (by assumption) ?_ | with_reducible refine c_order ?_ | with_reducible refine c_whole ?_
  | (with_reducible refine c_shapeM (by assumption) ?_; intro _ _) | (with_reducible refine c_parts (by assumption) ?_; intro _ _ _ _) | (with_reducible refine c_value (by assumption) ?_; intro _ _ _ _) | (with_reducible refine c_rank (by assumption) ?_; intro _ _) | (with_reducible refine c_steps (by assumption) ?_; intro _ _)
  | (with_reducible refine c_word (by assumption) ?_; intro _ _) | (with_reducible refine c_nmnm (by assumption) ?_; intro _ _ _ _) | (with_reducible refine c_compare (by assumption) (by assumption) ?_; intro _ _) | (with_reducible refine c_moved (by assumption) ?_; intro _ _ _ _)
  | with_reducible refine c_eq (by assumption) (by assumption) ?_ | with_reducible refine c_ne (by assumption) (by assumption) ?_
  | with_reducible refine i_isNN ?_ | with_reducible refine i_isNI ?_ | with_reducible refine i_sfld ?_ | with_reducible refine i_make ?_ | with_reducible refine c_eqSh (by assumption) (by assumption) ?_ | with_reducible refine c_neSh (by assumption) (by assumption) ?_ | with_reducible refine c_ne2 (by assumption) (by assumption) ?_
  | with_reducible refine i_par3 ?_ | with_reducible refine i_three ?_ | with_reducible refine g_three (by assumption) ?_
  | with_reducible refine i_pl0 (by assumption) ?_ | (with_reducible refine i_pl1 (by assumption) ?_; intro _ _) | with_reducible refine i_pl2 (by assumption) ?_ | with_reducible refine i_pl3 (by assumption) ?_ | with_reducible refine i_pl4 (by assumption) ?_
  | with_reducible refine i_fmt ?_ | with_reducible refine i_jc ?_ | with_reducible refine i_jn ?_
  | (with_reducible refine c_cmpN (by assumption) (by assumption) ?_; intro _ _) | with_reducible refine c_rankP (by assumption) ?_))
local macro_rules | `(tactic| walk_at "nm0") => `(tactic| repeat' (first
  | with_reducible refine i_asg ?_ | with_reducible refine i_ret ?_ | with_reducible refine i_drop ?_ | with_reducible refine i_ifS ?_ | with_reducible refine i_next ?_
  | with_reducible refine i_cons ?_ | with_reducible refine i_nil ?_ | with_reducible refine i_op ?_ | with_reducible refine i_un ?_ | with_reducible refine i_c ?_
  | with_reducible refine i_var ?_
  | with_reducible refine i_rI0 ?_ | with_reducible refine i_rU ?_
  | with_reducible refine i_rIa ?_
  | with_reducible refine i_test ?_ | with_reducible refine i_b ?_ | with_reducible refine i_bl ?_ | with_reducible refine i_if ?_ | with_reducible refine i_and ?_ | with_reducible refine i_or ?_ | with_reducible refine i_not ?_
  | with_reducible refine i_andV ?_ | with_reducible refine i_orV ?_ | with_reducible refine i_notV ?_ | with_reducible refine i_cb ?_ | with_reducible refine i_tup ?_ | with_reducible refine i_lst ?_ | with_reducible refine i_dget ?_
  | with_reducible refine i_gname ?_ | with_reducible refine i_chain ?_ | with_reducible refine i_eqI ?_ | with_reducible refine i_neI ?_ | with_reducible refine i_sl ?_ | with_reducible refine i_nopart ?_ | with_reducible refine i_part ?_ | with_reducible refine i_int ?_ | with_reducible refine i_par ?_ | with_reducible refine i_two ?_ | with_reducible refine i_strs ?_ | with_reducible refine i_isB ?_ | with_reducible refine i_isntB ?_ | with_reducible refine i_for ?_ | with_reducible refine i_itup ?_ | with_reducible refine i_ilist ?_ | with_reducible refine i_rng1 ?_
  | with_reducible refine i_fld ?_ | with_reducible refine f_sign (by assumption) (by assumption) ?_ | with_reducible refine f_m (by assumption) (by assumption) ?_ | with_reducible refine f_e (by assumption) (by assumption) ?_ | with_reducible refine f_state (by assumption) (by assumption) ?_
  | (with_reducible refine f_shape (by assumption) (by assumption) ?_; intro _ _)
  | with_reducible refine i_meth0 ?_ | with_reducible refine m_num (by assumption) ?_ | with_reducible refine i_call ?_ | with_reducible refine i_callP ?_ | with_reducible refine i_eqS ?_
  | with_reducible refine i_ixSh0 (by assumption) ?_ | with_reducible refine i_ixSh1 (by assumption) ?_ | with_reducible refine i_ixSh2 (by assumption) ?_ | with_reducible refine g_sh3 (by assumption) ?_ | with_reducible refine g_two (by assumption) ?_
  | with_reducible refine i_ixTup (by assumption) ?_
  | with_reducible refine i_fdB ?_ | with_reducible refine i_bm0 ?_ | with_reducible refine i_bits ?_ | with_reducible refine i_max ?_ | with_reducible refine i_min ?_ | with_reducible refine i_abs ?_ | with_reducible refine i_mul ?_ | with_reducible refine i_shl ?_
  | with_reducible refine c_shape (by assumption) ?_ | with_reducible refine c_shint (by assumption) ?_ | with_reducible refine c_nmint (by assumption) ?_ | with_reducible refine c_kind (by assumption) ?_ | with_reducible refine c_wantNum (by assumption) ?_ | with_reducible refine c_order ?_ | with_reducible refine c_whole ?_
  | (with_reducible refine c_shapeM (by assumption) ?_; intro _ _) | (with_reducible refine c_parts (by assumption) ?_; intro _ _ _ _) | (with_reducible refine c_value (by assumption) ?_; intro _ _ _ _) | (with_reducible refine c_rank (by assumption) ?_; intro _ _) | (with_reducible refine c_steps (by assumption) ?_; intro _ _)
  | (with_reducible refine c_word (by assumption) ?_; intro _ _) | (with_reducible refine c_nmnm (by assumption) ?_; intro _ _ _ _) | (with_reducible refine c_compare (by assumption) (by assumption) ?_; intro _ _) | (with_reducible refine c_moved (by assumption) ?_; intro _ _ _ _)
  | with_reducible refine c_eq (by assumption) (by assumption) ?_ | with_reducible refine c_ne (by assumption) (by assumption) ?_
  | with_reducible refine i_isNN ?_ | with_reducible refine i_isNI ?_ | with_reducible refine i_sfld ?_ | with_reducible refine i_make ?_ | with_reducible refine c_eqSh (by assumption) (by assumption) ?_ | with_reducible refine c_neSh (by assumption) (by assumption) ?_ | with_reducible refine c_ne2 (by assumption) (by assumption) ?_
  | with_reducible refine i_par3 ?_ | with_reducible refine i_three ?_ | with_reducible refine g_three (by assumption) ?_
  | with_reducible refine i_pl0 (by assumption) ?_ | (with_reducible refine i_pl1 (by assumption) ?_; intro _ _) | with_reducible refine i_pl2 (by assumption) ?_ | with_reducible refine i_pl3 (by assumption) ?_ | with_reducible refine i_pl4 (by assumption) ?_
  | with_reducible refine i_fmt ?_ | with_reducible refine i_jc ?_ | with_reducible refine i_jn ?_
  | (with_reducible refine c_cmpN (by assumption) (by assumption) ?_; intro _ _) | with_reducible refine c_rankP (by assumption) ?_))
def spLaw (K : PySem.W.Frag) : Sp := spF (fun x : Addr × List Int => [.ref x.1]) fun x H Q => SqL K H x.1 (x.2.map V.int) ∧ x.2.length ≤ 63 ∧ ∀ H', Q (.bl true) H'
theorem c_all {K : PySem.W.Frag} {C : Addr} {H H0 H1 : Hp} {Q : VK} {E : XK} {m c l : Addr} {k : Nat} {v : V} {S : Sh} (M : MOk H0 m c l k) (hk : k < 2 ^ 27) (hs : ShAt K H1 v S) (sm : Small S) (q : ∀ H', Kpt m l H H' → MOk H' m c l (k + 120) → Q (.bl true) H') (e : Sm H0 H := by infer_instance) (e1 : Ex H1 H := by infer_instance) : spAll K C [.ref m, v] H Q E :=
  ⟨⟨m, c, l, k, v, S⟩, rfl, M.same e.s, hk, hs.ex e1, sm, fun H' k' M' => q H' ⟨k'⟩ M'⟩
abbrev st_law : Stmt := top 48
theorem sc_law : FnScope ["_law_script", "_law_m", "_law_low"] ["_law_script"] (defScope st_law) := ⟨rfl, rfl, rfl, by decide +kernel, rfl, by decide +kernel, by decide +kernel⟩
section
variable {P : Program} {w : World} {K : PySem.W.Frag} {mg : Str → Option Value} {base : Heap} {C : Addr}
theorem ok_law {f : Addr} {fd : FuncData} (F : Fun K "law" "law" st_law f fd) (C__law_all_right : Cal P w K mg base 12 "_law_all_right" ["_law_m", "_law_form"] (spAll K C)) (C__law_draw : Cal P w K mg base 2 "_law_draw" ["_law_m", "_law_top_here"] (spDraw)) (C__law_begun : Cal P w K mg base 2 "_law_begun" ["_law_script"] (spBegun K)) :
    FnOk P w K mg base CX0 13 f fd ["_law_script"] (spLaw K) := by
  refine F.okW sc_law (spF.len fun _ => rfl) (fun cdv A outer s H vs Q E hr h => ?_)
  refine (?_ : ∃ t, Wr (PSs _ _ t) ∧ t _ _ _)
  obtain ⟨⟨a, ns⟩, rfl, hS, hns, q⟩ := h
  simp only at *
  refine ⟨_, (wss_cons (ws_set (i := 1) sc_law.nd rfl (Or.inl rfl) (we_cal C__law_begun (hr.mono (by decide)) (by rfl) (wa_cons (wv 0) wa_nil)))
        (wss_cons (ws_set (i := 2) sc_law.nd rfl (Or.inl rfl) (we_op op_sub we_int (we_cal C__law_draw (hr.mono (by decide)) (by rfl) (wa_cons (wv 1) (wa_cons we_int wa_nil)))))
        (wss_one (ws_ret (we_and (we_cal C__law_all_right (hr.mono (by decide)) (by rfl) (wa_cons (wv 1) (wa_cons (we_tupA (wa_cons (we_op op_add we_int (we_cal C__law_draw (hr.mono (by decide)) (by rfl) (wa_cons (wv 1) (wa_cons we_int wa_nil)))) (wa_cons (wv 2) (wa_cons (we_op op_add (wv 2) (we_cal C__law_draw (hr.mono (by decide)) (by rfl) (wa_cons (wv 1) (wa_cons we_int wa_nil)))) wa_nil)))) wa_nil))) (we_one (we_cal C__law_all_right (hr.mono (by decide)) (by rfl) (wa_cons (wv 1) (wa_cons (we_tupA (wa_cons we_int (wa_cons we_int (wa_cons we_int wa_nil)))) wa_nil))))))))), ?_⟩
  (try simp only [cx_K, cx_K2])
  walk_at "nm"
  refine ⟨a, ns, rfl, hS, hns, fun m c l H1 s1 nm nl M1 => ?_⟩
  walk_at "nm"
  refine c_draw M1 (fun r1 H2 k2 d2 a2 b2 M2 => ?_)
  walk_at "nm"
  refine c_draw M2 (fun r2 H3 k3 d3 a3 b3 M3 => ?_)
  walk_at "nm"
  refine c_draw M3 (fun r3 H4 k4 d4 a4 b4 M4 => ?_)
  walk_at "nm"
  refine i_bornT (K := K) rfl fun p5 H5 s5 t5 => ?_
  walk_at "nm"
  have o5 : (⟨2 + r2, 0 - r1, 0 - r1 + r3⟩ : Sh).Ok := by
    constructor <;> simp only <;> omega
  have z5 : Small ⟨2 + r2, 0 - r1, 0 - r1 + r3⟩ := by
    refine ⟨?_, ?_, ?_⟩ <;> simp only <;> omega
  refine c_all (S := ⟨2 + r2, 0 - r1, 0 - r1 + r3⟩) M4 (by decide) ⟨o5, t5⟩ z5 fun H6 k6 M6 => ?_
  walk_at "nm"
  refine ifT' rfl ?_
  walk_at "nm"
  refine i_bornT (K := K) rfl fun p7 H7 s7 t7 => ?_
  walk_at "nm"
  exact c_all (S := ⟨2, 0, 0⟩) M6 (by decide) ⟨⟨by decide, by decide, by decide, by decide, by decide, by decide⟩, t7⟩ ⟨by decide, by decide, by decide⟩ fun H8 k8 M8 => q H8
end
end K17

set_option Elab.async false
set_option linter.all false
set_option maxRecDepth 100000
set_option maxHeartbeats 4000000
namespace K17
open PySem PySem.Spec PyProof.Rows L2 Dw
local macro_rules | `(tactic| walk_at "bd") => `(tactic| repeat' (first
  | with_reducible refine wpAny_pure ?_ | with_reducible refine wpAny_bind ?_ | with_reducible refine wpAny_rule ?_
  | with_reducible refine Dfl.go (by assumption) (by assumption) ?_ | with_reducible refine no_go ?_
  | with_reducible refine PySem.W.Looks.here (PySem.W.looks_nsIn (by assumption) (by assumption)) ?_
  | with_reducible refine bd_ifF rfl ?_ | with_reducible refine bd_ifT rfl ?_ | with_reducible refine bd_cons rfl ?_ | with_reducible refine bd_nil rfl ?_
  | assumption
  | dsimp only))
theorem all_mk {l : PySem.W.OpenLaw} {w : World} {K : PySem.W.Frag} {h : Heap} {mg : Str → Option Value} {fa C f_first_normal f_Number_shape f_Number_parts f_Number_kind f_last_rank f_steps_from_zero f_Number_rank f_want_number f_between f_order f_by_twos f_Number_value f_Number_sign f_side f_compare f__law_top f__law_rank f__law_mixed f__law_draw f__law_order_right f_is_whole f_want_whole f_is_shape f_want_shape f_Number___init__ dt_Number___init__ kd_Number___init__ f_nan dt_nan f_field_bits f_sign_word f_top_word f_Number_word f_infinite dt_infinite kd_infinite f_by_steps f_by_rank dt_by_rank f_moved f_Number_up f__law_value_right f_Number___eq__ f_Number_negated f_by_word dt_by_word a_MARKS f_Number___str__ f__law_is f__law_made_right f__law_ranked f_Number_down f__law_walk_right f__law_all_right f__law_folded f__law_begun f_law : Addr} (X : K.In h) (G : h.Ns mainGlobals mg) (hfa : mg "law" = some (.ref fa))
    (z_range : PySem.W.nsIn K mainGlobals "range" = some none)
    (z_max : PySem.W.nsIn K mainGlobals "max" = some none)
    (z_abs : PySem.W.nsIn K mainGlobals "abs" = some none)
    (a_Number : PySem.W.nsIn K mainGlobals "Number" = some (some (.ref C)))
    (c_pg : PySem.W.plainGet K C Str.empty = true)
    (c_hd : PySem.W.hasDictIn K C = true)
    (c_po : PySem.W.plainOver K C = true)
    (c_sa : PySem.W.findIn K (.ref C) "__setattr__" = some (some (.builtin "object.__setattr__")))
    (n_own_shape : PySem.W.findIn K (.ref C) "own_shape" = some none)
    (n_own_sign : PySem.W.findIn K (.ref C) "own_sign" = some none)
    (n_own_significand : PySem.W.findIn K (.ref C) "own_significand" = some none)
    (n_own_exponent : PySem.W.findIn K (.ref C) "own_exponent" = some none)
    (n_state : PySem.W.findIn K (.ref C) "state" = some none)
    (c_ha : PySem.W.findIn K (.ref C) "__class__" = some (some (.builtin "object.__class__")))
    (c_hn : PySem.W.specialIn K (.builtin "object.__class__") "__get__" = some (some (.builtin "getset_descriptor.__get__")))
    (c_htk : PySem.W.takesIn K (.builtin "object.__class__") = some true)
    (c_hm : PySem.W.mroIn K C (.type "object") = some true)
    (c_mk : PySem.W.makesIn K C = true)
    (c_kp : PySem.W.keepIn K (.ref C) = true)
    (a_first_normal : PySem.W.nsIn K mainGlobals "first_normal" = some (some (.ref f_first_normal)))
    {od_first_normal an_first_normal : Option Addr} {sl_first_normal : Array (Option Value)} {oc_first_normal dc_first_normal pm_first_normal cd_first_normal ct_first_normal : Value} {kV_first_normal : Value} (l_first_normal : K.lookup f_first_normal = some ⟨oc_first_normal, od_first_normal, .func (PySem.W.fnOf "first_normal" "first_normal" (defArgs st_first_normal) (defBody st_first_normal) (defScope st_first_normal) .none kV_first_normal dc_first_normal pm_first_normal an_first_normal cd_first_normal ct_first_normal), sl_first_normal⟩)
    (c_first_normal : PySem.W.codeIn K cd_first_normal "first_normal" = true)
    (k_first_normal : PySem.W.keepIn K (.ref f_first_normal) = true)
    (a_Number_shape : PySem.W.findIn K (.ref C) "shape" = some (some (.ref f_Number_shape)))
    (i_Number_shape : PySem.W.isFn K (.ref f_Number_shape) = true)
    {od_Number_shape an_Number_shape : Option Addr} {sl_Number_shape : Array (Option Value)} {oc_Number_shape dc_Number_shape pm_Number_shape cd_Number_shape ct_Number_shape : Value} {kV_Number_shape : Value} (l_Number_shape : K.lookup f_Number_shape = some ⟨oc_Number_shape, od_Number_shape, .func (PySem.W.fnOf "shape" "Number.shape" (defArgs st_Number_shape) (defBody st_Number_shape) (defScope st_Number_shape) .none kV_Number_shape dc_Number_shape pm_Number_shape an_Number_shape cd_Number_shape ct_Number_shape), sl_Number_shape⟩)
    (c_Number_shape : PySem.W.codeIn K cd_Number_shape "Number.shape" = true)
    (k_Number_shape : PySem.W.keepIn K (.ref f_Number_shape) = true)
    {gt_FINITE : Tok} (g_FINITE : PySem.W.nsIn K mainGlobals "FINITE" = some (some (.str "finite" gt_FINITE)))
    (a_Number_parts : PySem.W.findIn K (.ref C) "parts" = some (some (.ref f_Number_parts)))
    (i_Number_parts : PySem.W.isFn K (.ref f_Number_parts) = true)
    {od_Number_parts an_Number_parts : Option Addr} {sl_Number_parts : Array (Option Value)} {oc_Number_parts dc_Number_parts pm_Number_parts cd_Number_parts ct_Number_parts : Value} {kV_Number_parts : Value} (l_Number_parts : K.lookup f_Number_parts = some ⟨oc_Number_parts, od_Number_parts, .func (PySem.W.fnOf "parts" "Number.parts" (defArgs st_Number_parts) (defBody st_Number_parts) (defScope st_Number_parts) .none kV_Number_parts dc_Number_parts pm_Number_parts an_Number_parts cd_Number_parts ct_Number_parts), sl_Number_parts⟩)
    (c_Number_parts : PySem.W.codeIn K cd_Number_parts "Number.parts" = true)
    (k_Number_parts : PySem.W.keepIn K (.ref f_Number_parts) = true)
    (a_Number_kind : PySem.W.findIn K (.ref C) "kind" = some (some (.ref f_Number_kind)))
    (i_Number_kind : PySem.W.isFn K (.ref f_Number_kind) = true)
    {od_Number_kind an_Number_kind : Option Addr} {sl_Number_kind : Array (Option Value)} {oc_Number_kind dc_Number_kind pm_Number_kind cd_Number_kind ct_Number_kind : Value} {kV_Number_kind : Value} (l_Number_kind : K.lookup f_Number_kind = some ⟨oc_Number_kind, od_Number_kind, .func (PySem.W.fnOf "kind" "Number.kind" (defArgs st_Number_kind) (defBody st_Number_kind) (defScope st_Number_kind) .none kV_Number_kind dc_Number_kind pm_Number_kind an_Number_kind cd_Number_kind ct_Number_kind), sl_Number_kind⟩)
    (c_Number_kind : PySem.W.codeIn K cd_Number_kind "Number.kind" = true)
    (k_Number_kind : PySem.W.keepIn K (.ref f_Number_kind) = true)
    {gt_INFINITE : Tok} (g_INFINITE : PySem.W.nsIn K mainGlobals "INFINITE" = some (some (.str "infinite" gt_INFINITE)))
    (a_last_rank : PySem.W.nsIn K mainGlobals "last_rank" = some (some (.ref f_last_rank)))
    {od_last_rank an_last_rank : Option Addr} {sl_last_rank : Array (Option Value)} {oc_last_rank dc_last_rank pm_last_rank cd_last_rank ct_last_rank : Value} {kV_last_rank : Value} (l_last_rank : K.lookup f_last_rank = some ⟨oc_last_rank, od_last_rank, .func (PySem.W.fnOf "last_rank" "last_rank" (defArgs st_last_rank) (defBody st_last_rank) (defScope st_last_rank) .none kV_last_rank dc_last_rank pm_last_rank an_last_rank cd_last_rank ct_last_rank), sl_last_rank⟩)
    (c_last_rank : PySem.W.codeIn K cd_last_rank "last_rank" = true)
    (k_last_rank : PySem.W.keepIn K (.ref f_last_rank) = true)
    (a_steps_from_zero : PySem.W.nsIn K mainGlobals "steps_from_zero" = some (some (.ref f_steps_from_zero)))
    {od_steps_from_zero an_steps_from_zero : Option Addr} {sl_steps_from_zero : Array (Option Value)} {oc_steps_from_zero dc_steps_from_zero pm_steps_from_zero cd_steps_from_zero ct_steps_from_zero : Value} {kV_steps_from_zero : Value} (l_steps_from_zero : K.lookup f_steps_from_zero = some ⟨oc_steps_from_zero, od_steps_from_zero, .func (PySem.W.fnOf "steps_from_zero" "steps_from_zero" (defArgs st_steps_from_zero) (defBody st_steps_from_zero) (defScope st_steps_from_zero) .none kV_steps_from_zero dc_steps_from_zero pm_steps_from_zero an_steps_from_zero cd_steps_from_zero ct_steps_from_zero), sl_steps_from_zero⟩)
    (c_steps_from_zero : PySem.W.codeIn K cd_steps_from_zero "steps_from_zero" = true)
    (k_steps_from_zero : PySem.W.keepIn K (.ref f_steps_from_zero) = true)
    {gt_NAN : Tok} (g_NAN : PySem.W.nsIn K mainGlobals "NAN" = some (some (.str "nan" gt_NAN)))
    (a_Number_rank : PySem.W.findIn K (.ref C) "rank" = some (some (.ref f_Number_rank)))
    (i_Number_rank : PySem.W.isFn K (.ref f_Number_rank) = true)
    {od_Number_rank an_Number_rank : Option Addr} {sl_Number_rank : Array (Option Value)} {oc_Number_rank dc_Number_rank pm_Number_rank cd_Number_rank ct_Number_rank : Value} {kV_Number_rank : Value} (l_Number_rank : K.lookup f_Number_rank = some ⟨oc_Number_rank, od_Number_rank, .func (PySem.W.fnOf "rank" "Number.rank" (defArgs st_Number_rank) (defBody st_Number_rank) (defScope st_Number_rank) .none kV_Number_rank dc_Number_rank pm_Number_rank an_Number_rank cd_Number_rank ct_Number_rank), sl_Number_rank⟩)
    (c_Number_rank : PySem.W.codeIn K cd_Number_rank "Number.rank" = true)
    (k_Number_rank : PySem.W.keepIn K (.ref f_Number_rank) = true)
    (z_isinstance : PySem.W.nsIn K mainGlobals "isinstance" = some none)
    (a_want_number : PySem.W.nsIn K mainGlobals "want_number" = some (some (.ref f_want_number)))
    {od_want_number an_want_number : Option Addr} {sl_want_number : Array (Option Value)} {oc_want_number dc_want_number pm_want_number cd_want_number ct_want_number : Value} {kV_want_number : Value} (l_want_number : K.lookup f_want_number = some ⟨oc_want_number, od_want_number, .func (PySem.W.fnOf "want_number" "want_number" (defArgs st_want_number) (defBody st_want_number) (defScope st_want_number) .none kV_want_number dc_want_number pm_want_number an_want_number cd_want_number ct_want_number), sl_want_number⟩)
    (c_want_number : PySem.W.codeIn K cd_want_number "want_number" = true)
    (k_want_number : PySem.W.keepIn K (.ref f_want_number) = true)
    (a_between : PySem.W.nsIn K mainGlobals "between" = some (some (.ref f_between)))
    {od_between an_between : Option Addr} {sl_between : Array (Option Value)} {oc_between dc_between pm_between cd_between ct_between : Value} {kV_between : Value} (l_between : K.lookup f_between = some ⟨oc_between, od_between, .func (PySem.W.fnOf "between" "between" (defArgs st_between) (defBody st_between) (defScope st_between) .none kV_between dc_between pm_between an_between cd_between ct_between), sl_between⟩)
    (c_between : PySem.W.codeIn K cd_between "between" = true)
    (k_between : PySem.W.keepIn K (.ref f_between) = true)
    (a_order : PySem.W.nsIn K mainGlobals "order" = some (some (.ref f_order)))
    {od_order an_order : Option Addr} {sl_order : Array (Option Value)} {oc_order dc_order pm_order cd_order ct_order : Value} {kV_order : Value} (l_order : K.lookup f_order = some ⟨oc_order, od_order, .func (PySem.W.fnOf "order" "order" (defArgs st_order) (defBody st_order) (defScope st_order) .none kV_order dc_order pm_order an_order cd_order ct_order), sl_order⟩)
    (c_order : PySem.W.codeIn K cd_order "order" = true)
    (k_order : PySem.W.keepIn K (.ref f_order) = true)
    (z_min : PySem.W.nsIn K mainGlobals "min" = some none)
    (a_by_twos : PySem.W.nsIn K mainGlobals "by_twos" = some (some (.ref f_by_twos)))
    {od_by_twos an_by_twos : Option Addr} {sl_by_twos : Array (Option Value)} {oc_by_twos dc_by_twos pm_by_twos cd_by_twos ct_by_twos : Value} {kV_by_twos : Value} (l_by_twos : K.lookup f_by_twos = some ⟨oc_by_twos, od_by_twos, .func (PySem.W.fnOf "by_twos" "by_twos" (defArgs st_by_twos) (defBody st_by_twos) (defScope st_by_twos) .none kV_by_twos dc_by_twos pm_by_twos an_by_twos cd_by_twos ct_by_twos), sl_by_twos⟩)
    (c_by_twos : PySem.W.codeIn K cd_by_twos "by_twos" = true)
    (k_by_twos : PySem.W.keepIn K (.ref f_by_twos) = true)
    (a_Number_value : PySem.W.findIn K (.ref C) "value" = some (some (.ref f_Number_value)))
    (i_Number_value : PySem.W.isFn K (.ref f_Number_value) = true)
    {od_Number_value an_Number_value : Option Addr} {sl_Number_value : Array (Option Value)} {oc_Number_value dc_Number_value pm_Number_value cd_Number_value ct_Number_value : Value} {kV_Number_value : Value} (l_Number_value : K.lookup f_Number_value = some ⟨oc_Number_value, od_Number_value, .func (PySem.W.fnOf "value" "Number.value" (defArgs st_Number_value) (defBody st_Number_value) (defScope st_Number_value) .none kV_Number_value dc_Number_value pm_Number_value an_Number_value cd_Number_value ct_Number_value), sl_Number_value⟩)
    (c_Number_value : PySem.W.codeIn K cd_Number_value "Number.value" = true)
    (k_Number_value : PySem.W.keepIn K (.ref f_Number_value) = true)
    (a_Number_sign : PySem.W.findIn K (.ref C) "sign" = some (some (.ref f_Number_sign)))
    (i_Number_sign : PySem.W.isFn K (.ref f_Number_sign) = true)
    {od_Number_sign an_Number_sign : Option Addr} {sl_Number_sign : Array (Option Value)} {oc_Number_sign dc_Number_sign pm_Number_sign cd_Number_sign ct_Number_sign : Value} {kV_Number_sign : Value} (l_Number_sign : K.lookup f_Number_sign = some ⟨oc_Number_sign, od_Number_sign, .func (PySem.W.fnOf "sign" "Number.sign" (defArgs st_Number_sign) (defBody st_Number_sign) (defScope st_Number_sign) .none kV_Number_sign dc_Number_sign pm_Number_sign an_Number_sign cd_Number_sign ct_Number_sign), sl_Number_sign⟩)
    (c_Number_sign : PySem.W.codeIn K cd_Number_sign "Number.sign" = true)
    (k_Number_sign : PySem.W.keepIn K (.ref f_Number_sign) = true)
    (a_side : PySem.W.nsIn K mainGlobals "side" = some (some (.ref f_side)))
    {od_side an_side : Option Addr} {sl_side : Array (Option Value)} {oc_side dc_side pm_side cd_side ct_side : Value} {kV_side : Value} (l_side : K.lookup f_side = some ⟨oc_side, od_side, .func (PySem.W.fnOf "side" "side" (defArgs st_side) (defBody st_side) (defScope st_side) .none kV_side dc_side pm_side an_side cd_side ct_side), sl_side⟩)
    (c_side : PySem.W.codeIn K cd_side "side" = true)
    (k_side : PySem.W.keepIn K (.ref f_side) = true)
    (a_compare : PySem.W.nsIn K mainGlobals "compare" = some (some (.ref f_compare)))
    {od_compare an_compare : Option Addr} {sl_compare : Array (Option Value)} {oc_compare dc_compare pm_compare cd_compare ct_compare : Value} {kV_compare : Value} (l_compare : K.lookup f_compare = some ⟨oc_compare, od_compare, .func (PySem.W.fnOf "compare" "compare" (defArgs st_compare) (defBody st_compare) (defScope st_compare) .none kV_compare dc_compare pm_compare an_compare cd_compare ct_compare), sl_compare⟩)
    (c_compare : PySem.W.codeIn K cd_compare "compare" = true)
    (k_compare : PySem.W.keepIn K (.ref f_compare) = true)
    (a__law_top : PySem.W.nsIn K mainGlobals "_law_top" = some (some (.ref f__law_top)))
    {od__law_top an__law_top : Option Addr} {sl__law_top : Array (Option Value)} {oc__law_top dc__law_top pm__law_top cd__law_top ct__law_top : Value} {kV__law_top : Value} (l__law_top : K.lookup f__law_top = some ⟨oc__law_top, od__law_top, .func (PySem.W.fnOf "_law_top" "_law_top" (defArgs st_l_top) (defBody st_l_top) (defScope st_l_top) .none kV__law_top dc__law_top pm__law_top an__law_top cd__law_top ct__law_top), sl__law_top⟩)
    (c__law_top : PySem.W.codeIn K cd__law_top "_law_top" = true)
    (k__law_top : PySem.W.keepIn K (.ref f__law_top) = true)
    (a__law_rank : PySem.W.nsIn K mainGlobals "_law_rank" = some (some (.ref f__law_rank)))
    {od__law_rank an__law_rank : Option Addr} {sl__law_rank : Array (Option Value)} {oc__law_rank dc__law_rank pm__law_rank cd__law_rank ct__law_rank : Value} {kV__law_rank : Value} (l__law_rank : K.lookup f__law_rank = some ⟨oc__law_rank, od__law_rank, .func (PySem.W.fnOf "_law_rank" "_law_rank" (defArgs st_l_rank) (defBody st_l_rank) (defScope st_l_rank) .none kV__law_rank dc__law_rank pm__law_rank an__law_rank cd__law_rank ct__law_rank), sl__law_rank⟩)
    (c__law_rank : PySem.W.codeIn K cd__law_rank "_law_rank" = true)
    (k__law_rank : PySem.W.keepIn K (.ref f__law_rank) = true)
    (z_len : PySem.W.nsIn K mainGlobals "len" = some none)
    (a__law_mixed : PySem.W.nsIn K mainGlobals "_law_mixed" = some (some (.ref f__law_mixed)))
    {od__law_mixed an__law_mixed : Option Addr} {sl__law_mixed : Array (Option Value)} {oc__law_mixed dc__law_mixed pm__law_mixed cd__law_mixed ct__law_mixed : Value} {kV__law_mixed : Value} (l__law_mixed : K.lookup f__law_mixed = some ⟨oc__law_mixed, od__law_mixed, .func (PySem.W.fnOf "_law_mixed" "_law_mixed" (defArgs st_l_mixed) (defBody st_l_mixed) (defScope st_l_mixed) .none kV__law_mixed dc__law_mixed pm__law_mixed an__law_mixed cd__law_mixed ct__law_mixed), sl__law_mixed⟩)
    (c__law_mixed : PySem.W.codeIn K cd__law_mixed "_law_mixed" = true)
    (k__law_mixed : PySem.W.keepIn K (.ref f__law_mixed) = true)
    (a__law_draw : PySem.W.nsIn K mainGlobals "_law_draw" = some (some (.ref f__law_draw)))
    {od__law_draw an__law_draw : Option Addr} {sl__law_draw : Array (Option Value)} {oc__law_draw dc__law_draw pm__law_draw cd__law_draw ct__law_draw : Value} {kV__law_draw : Value} (l__law_draw : K.lookup f__law_draw = some ⟨oc__law_draw, od__law_draw, .func (PySem.W.fnOf "_law_draw" "_law_draw" (defArgs st_l_draw) (defBody st_l_draw) (defScope st_l_draw) .none kV__law_draw dc__law_draw pm__law_draw an__law_draw cd__law_draw ct__law_draw), sl__law_draw⟩)
    (c__law_draw : PySem.W.codeIn K cd__law_draw "_law_draw" = true)
    (k__law_draw : PySem.W.keepIn K (.ref f__law_draw) = true)
    (a__law_order_right : PySem.W.nsIn K mainGlobals "_law_order_right" = some (some (.ref f__law_order_right)))
    {od__law_order_right an__law_order_right : Option Addr} {sl__law_order_right : Array (Option Value)} {oc__law_order_right dc__law_order_right pm__law_order_right cd__law_order_right ct__law_order_right : Value} {kV__law_order_right : Value} (l__law_order_right : K.lookup f__law_order_right = some ⟨oc__law_order_right, od__law_order_right, .func (PySem.W.fnOf "_law_order_right" "_law_order_right" (defArgs st_l_order_right) (defBody st_l_order_right) (defScope st_l_order_right) .none kV__law_order_right dc__law_order_right pm__law_order_right an__law_order_right cd__law_order_right ct__law_order_right), sl__law_order_right⟩)
    (c__law_order_right : PySem.W.codeIn K cd__law_order_right "_law_order_right" = true)
    (k__law_order_right : PySem.W.keepIn K (.ref f__law_order_right) = true)
    (z_set : PySem.W.nsIn K mainGlobals "set" = some none)
    (z_bool : PySem.W.nsIn K mainGlobals "bool" = some none)
    (z_int : PySem.W.nsIn K mainGlobals "int" = some none)
    (a_is_whole : PySem.W.nsIn K mainGlobals "is_whole" = some (some (.ref f_is_whole)))
    {od_is_whole an_is_whole : Option Addr} {sl_is_whole : Array (Option Value)} {oc_is_whole dc_is_whole pm_is_whole cd_is_whole ct_is_whole : Value} {kV_is_whole : Value} (l_is_whole : K.lookup f_is_whole = some ⟨oc_is_whole, od_is_whole, .func (PySem.W.fnOf "is_whole" "is_whole" (defArgs st_is_whole) (defBody st_is_whole) (defScope st_is_whole) .none kV_is_whole dc_is_whole pm_is_whole an_is_whole cd_is_whole ct_is_whole), sl_is_whole⟩)
    (c_is_whole : PySem.W.codeIn K cd_is_whole "is_whole" = true)
    (k_is_whole : PySem.W.keepIn K (.ref f_is_whole) = true)
    (a_want_whole : PySem.W.nsIn K mainGlobals "want_whole" = some (some (.ref f_want_whole)))
    {od_want_whole an_want_whole : Option Addr} {sl_want_whole : Array (Option Value)} {oc_want_whole dc_want_whole pm_want_whole cd_want_whole ct_want_whole : Value} {kV_want_whole : Value} (l_want_whole : K.lookup f_want_whole = some ⟨oc_want_whole, od_want_whole, .func (PySem.W.fnOf "want_whole" "want_whole" (defArgs st_want_whole) (defBody st_want_whole) (defScope st_want_whole) .none kV_want_whole dc_want_whole pm_want_whole an_want_whole cd_want_whole ct_want_whole), sl_want_whole⟩)
    (c_want_whole : PySem.W.codeIn K cd_want_whole "want_whole" = true)
    (k_want_whole : PySem.W.keepIn K (.ref f_want_whole) = true)
    {gi_LOW_LEAST : Int} {gt_LOW_LEAST : Tok} (g_LOW_LEAST : PySem.W.nsIn K mainGlobals "LOW_LEAST" = some (some (.int gi_LOW_LEAST gt_LOW_LEAST)))
    (v_LOW_LEAST : gi_LOW_LEAST = -1100)
    (z_tuple : PySem.W.nsIn K mainGlobals "tuple" = some none)
    (a_is_shape : PySem.W.nsIn K mainGlobals "is_shape" = some (some (.ref f_is_shape)))
    {od_is_shape an_is_shape : Option Addr} {sl_is_shape : Array (Option Value)} {oc_is_shape dc_is_shape pm_is_shape cd_is_shape ct_is_shape : Value} {kV_is_shape : Value} (l_is_shape : K.lookup f_is_shape = some ⟨oc_is_shape, od_is_shape, .func (PySem.W.fnOf "is_shape" "is_shape" (defArgs st_is_shape) (defBody st_is_shape) (defScope st_is_shape) .none kV_is_shape dc_is_shape pm_is_shape an_is_shape cd_is_shape ct_is_shape), sl_is_shape⟩)
    (c_is_shape : PySem.W.codeIn K cd_is_shape "is_shape" = true)
    (k_is_shape : PySem.W.keepIn K (.ref f_is_shape) = true)
    (a_want_shape : PySem.W.nsIn K mainGlobals "want_shape" = some (some (.ref f_want_shape)))
    {od_want_shape an_want_shape : Option Addr} {sl_want_shape : Array (Option Value)} {oc_want_shape dc_want_shape pm_want_shape cd_want_shape ct_want_shape : Value} {kV_want_shape : Value} (l_want_shape : K.lookup f_want_shape = some ⟨oc_want_shape, od_want_shape, .func (PySem.W.fnOf "want_shape" "want_shape" (defArgs st_want_shape) (defBody st_want_shape) (defScope st_want_shape) .none kV_want_shape dc_want_shape pm_want_shape an_want_shape cd_want_shape ct_want_shape), sl_want_shape⟩)
    (c_want_shape : PySem.W.codeIn K cd_want_shape "want_shape" = true)
    (k_want_shape : PySem.W.keepIn K (.ref f_want_shape) = true)
    (a_Number___init__ : PySem.W.findIn K (.ref C) "__init__" = some (some (.ref f_Number___init__)))
    (i_Number___init__ : PySem.W.isFn K (.ref f_Number___init__) = true)
    {od_Number___init__ an_Number___init__ : Option Addr} {sl_Number___init__ : Array (Option Value)} {oc_Number___init__ dc_Number___init__ pm_Number___init__ cd_Number___init__ ct_Number___init__ : Value} (l_Number___init__ : K.lookup f_Number___init__ = some ⟨oc_Number___init__, od_Number___init__, .func (PySem.W.fnOf "__init__" "Number.__init__" (defArgs st_Number_init) (defBody st_Number_init) (defScope st_Number_init) (.ref dt_Number___init__) (.ref kd_Number___init__) dc_Number___init__ pm_Number___init__ an_Number___init__ cd_Number___init__ ct_Number___init__), sl_Number___init__⟩)
    (c_Number___init__ : PySem.W.codeIn K cd_Number___init__ "Number.__init__" = true)
    (k_Number___init__ : PySem.W.keepIn K (.ref f_Number___init__) = true)
    {to_Number___init__ : Option Addr} {dv_Number___init__ : Value} {tn_Number___init__ : Nat} {ts_Number___init__ : Array (Option Value)} (t_Number___init__ : K.lookup dt_Number___init__ = some ⟨.type "tuple", to_Number___init__, .seq #[dv_Number___init__] tn_Number___init__, ts_Number___init__⟩)
    {tk_Number___init___sign : Tok} (w_Number___init___sign : PySem.W.nsIn K kd_Number___init__ "sign" = some (some (.int 0 tk_Number___init___sign)))
    {tk_Number___init___significand : Tok} (w_Number___init___significand : PySem.W.nsIn K kd_Number___init__ "significand" = some (some (.int 0 tk_Number___init___significand)))
    (w_Number___init___exponent : PySem.W.nsIn K kd_Number___init__ "exponent" = some (some .none))
    (a_nan : PySem.W.nsIn K mainGlobals "nan" = some (some (.ref f_nan)))
    {od_nan an_nan : Option Addr} {sl_nan : Array (Option Value)} {oc_nan dc_nan pm_nan cd_nan ct_nan : Value} {kV_nan : Value} (l_nan : K.lookup f_nan = some ⟨oc_nan, od_nan, .func (PySem.W.fnOf "nan" "nan" (defArgs st_nan) (defBody st_nan) (defScope st_nan) (.ref dt_nan) kV_nan dc_nan pm_nan an_nan cd_nan ct_nan), sl_nan⟩)
    (c_nan : PySem.W.codeIn K cd_nan "nan" = true)
    (k_nan : PySem.W.keepIn K (.ref f_nan) = true)
    {to_nan : Option Addr} {dv_nan : Value} {tn_nan : Nat} {ts_nan : Array (Option Value)} (t_nan : K.lookup dt_nan = some ⟨.type "tuple", to_nan, .seq #[dv_nan] tn_nan, ts_nan⟩)
    (a_field_bits : PySem.W.nsIn K mainGlobals "field_bits" = some (some (.ref f_field_bits)))
    {od_field_bits an_field_bits : Option Addr} {sl_field_bits : Array (Option Value)} {oc_field_bits dc_field_bits pm_field_bits cd_field_bits ct_field_bits : Value} {kV_field_bits : Value} (l_field_bits : K.lookup f_field_bits = some ⟨oc_field_bits, od_field_bits, .func (PySem.W.fnOf "field_bits" "field_bits" (defArgs st_field_bits) (defBody st_field_bits) (defScope st_field_bits) .none kV_field_bits dc_field_bits pm_field_bits an_field_bits cd_field_bits ct_field_bits), sl_field_bits⟩)
    (c_field_bits : PySem.W.codeIn K cd_field_bits "field_bits" = true)
    (k_field_bits : PySem.W.keepIn K (.ref f_field_bits) = true)
    (a_sign_word : PySem.W.nsIn K mainGlobals "sign_word" = some (some (.ref f_sign_word)))
    {od_sign_word an_sign_word : Option Addr} {sl_sign_word : Array (Option Value)} {oc_sign_word dc_sign_word pm_sign_word cd_sign_word ct_sign_word : Value} {kV_sign_word : Value} (l_sign_word : K.lookup f_sign_word = some ⟨oc_sign_word, od_sign_word, .func (PySem.W.fnOf "sign_word" "sign_word" (defArgs st_sign_word) (defBody st_sign_word) (defScope st_sign_word) .none kV_sign_word dc_sign_word pm_sign_word an_sign_word cd_sign_word ct_sign_word), sl_sign_word⟩)
    (c_sign_word : PySem.W.codeIn K cd_sign_word "sign_word" = true)
    (k_sign_word : PySem.W.keepIn K (.ref f_sign_word) = true)
    (a_top_word : PySem.W.nsIn K mainGlobals "top_word" = some (some (.ref f_top_word)))
    {od_top_word an_top_word : Option Addr} {sl_top_word : Array (Option Value)} {oc_top_word dc_top_word pm_top_word cd_top_word ct_top_word : Value} {kV_top_word : Value} (l_top_word : K.lookup f_top_word = some ⟨oc_top_word, od_top_word, .func (PySem.W.fnOf "top_word" "top_word" (defArgs st_top_word) (defBody st_top_word) (defScope st_top_word) .none kV_top_word dc_top_word pm_top_word an_top_word cd_top_word ct_top_word), sl_top_word⟩)
    (c_top_word : PySem.W.codeIn K cd_top_word "top_word" = true)
    (k_top_word : PySem.W.keepIn K (.ref f_top_word) = true)
    (a_Number_word : PySem.W.findIn K (.ref C) "word" = some (some (.ref f_Number_word)))
    (i_Number_word : PySem.W.isFn K (.ref f_Number_word) = true)
    {od_Number_word an_Number_word : Option Addr} {sl_Number_word : Array (Option Value)} {oc_Number_word dc_Number_word pm_Number_word cd_Number_word ct_Number_word : Value} {kV_Number_word : Value} (l_Number_word : K.lookup f_Number_word = some ⟨oc_Number_word, od_Number_word, .func (PySem.W.fnOf "word" "Number.word" (defArgs st_Number_word) (defBody st_Number_word) (defScope st_Number_word) .none kV_Number_word dc_Number_word pm_Number_word an_Number_word cd_Number_word ct_Number_word), sl_Number_word⟩)
    (c_Number_word : PySem.W.codeIn K cd_Number_word "Number.word" = true)
    (k_Number_word : PySem.W.keepIn K (.ref f_Number_word) = true)
    (a_infinite : PySem.W.nsIn K mainGlobals "infinite" = some (some (.ref f_infinite)))
    {od_infinite an_infinite : Option Addr} {sl_infinite : Array (Option Value)} {oc_infinite dc_infinite pm_infinite cd_infinite ct_infinite : Value} (l_infinite : K.lookup f_infinite = some ⟨oc_infinite, od_infinite, .func (PySem.W.fnOf "infinite" "infinite" (defArgs st_infinite) (defBody st_infinite) (defScope st_infinite) (.ref dt_infinite) (.ref kd_infinite) dc_infinite pm_infinite an_infinite cd_infinite ct_infinite), sl_infinite⟩)
    (c_infinite : PySem.W.codeIn K cd_infinite "infinite" = true)
    (k_infinite : PySem.W.keepIn K (.ref f_infinite) = true)
    {to_infinite : Option Addr} {dv_infinite : Value} {tn_infinite : Nat} {ts_infinite : Array (Option Value)} (t_infinite : K.lookup dt_infinite = some ⟨.type "tuple", to_infinite, .seq #[dv_infinite] tn_infinite, ts_infinite⟩)
    {tk_infinite_sign : Tok} (w_infinite_sign : PySem.W.nsIn K kd_infinite "sign" = some (some (.int 0 tk_infinite_sign)))
    (a_by_steps : PySem.W.nsIn K mainGlobals "by_steps" = some (some (.ref f_by_steps)))
    {od_by_steps an_by_steps : Option Addr} {sl_by_steps : Array (Option Value)} {oc_by_steps dc_by_steps pm_by_steps cd_by_steps ct_by_steps : Value} {kV_by_steps : Value} (l_by_steps : K.lookup f_by_steps = some ⟨oc_by_steps, od_by_steps, .func (PySem.W.fnOf "by_steps" "by_steps" (defArgs st_by_steps) (defBody st_by_steps) (defScope st_by_steps) .none kV_by_steps dc_by_steps pm_by_steps an_by_steps cd_by_steps ct_by_steps), sl_by_steps⟩)
    (c_by_steps : PySem.W.codeIn K cd_by_steps "by_steps" = true)
    (k_by_steps : PySem.W.keepIn K (.ref f_by_steps) = true)
    (a_by_rank : PySem.W.nsIn K mainGlobals "by_rank" = some (some (.ref f_by_rank)))
    {od_by_rank an_by_rank : Option Addr} {sl_by_rank : Array (Option Value)} {oc_by_rank dc_by_rank pm_by_rank cd_by_rank ct_by_rank : Value} {kV_by_rank : Value} (l_by_rank : K.lookup f_by_rank = some ⟨oc_by_rank, od_by_rank, .func (PySem.W.fnOf "by_rank" "by_rank" (defArgs st_by_rank) (defBody st_by_rank) (defScope st_by_rank) (.ref dt_by_rank) kV_by_rank dc_by_rank pm_by_rank an_by_rank cd_by_rank ct_by_rank), sl_by_rank⟩)
    (c_by_rank : PySem.W.codeIn K cd_by_rank "by_rank" = true)
    (k_by_rank : PySem.W.keepIn K (.ref f_by_rank) = true)
    {to_by_rank : Option Addr} {dv_by_rank : Value} {tn_by_rank : Nat} {ts_by_rank : Array (Option Value)} (t_by_rank : K.lookup dt_by_rank = some ⟨.type "tuple", to_by_rank, .seq #[dv_by_rank] tn_by_rank, ts_by_rank⟩)
    (a_moved : PySem.W.nsIn K mainGlobals "moved" = some (some (.ref f_moved)))
    {od_moved an_moved : Option Addr} {sl_moved : Array (Option Value)} {oc_moved dc_moved pm_moved cd_moved ct_moved : Value} {kV_moved : Value} (l_moved : K.lookup f_moved = some ⟨oc_moved, od_moved, .func (PySem.W.fnOf "moved" "moved" (defArgs st_moved) (defBody st_moved) (defScope st_moved) .none kV_moved dc_moved pm_moved an_moved cd_moved ct_moved), sl_moved⟩)
    (c_moved : PySem.W.codeIn K cd_moved "moved" = true)
    (k_moved : PySem.W.keepIn K (.ref f_moved) = true)
    (a_Number_up : PySem.W.findIn K (.ref C) "up" = some (some (.ref f_Number_up)))
    (i_Number_up : PySem.W.isFn K (.ref f_Number_up) = true)
    {od_Number_up an_Number_up : Option Addr} {sl_Number_up : Array (Option Value)} {oc_Number_up dc_Number_up pm_Number_up cd_Number_up ct_Number_up : Value} {kV_Number_up : Value} (l_Number_up : K.lookup f_Number_up = some ⟨oc_Number_up, od_Number_up, .func (PySem.W.fnOf "up" "Number.up" (defArgs st_Number_up) (defBody st_Number_up) (defScope st_Number_up) .none kV_Number_up dc_Number_up pm_Number_up an_Number_up cd_Number_up ct_Number_up), sl_Number_up⟩)
    (c_Number_up : PySem.W.codeIn K cd_Number_up "Number.up" = true)
    (k_Number_up : PySem.W.keepIn K (.ref f_Number_up) = true)
    (a__law_value_right : PySem.W.nsIn K mainGlobals "_law_value_right" = some (some (.ref f__law_value_right)))
    {od__law_value_right an__law_value_right : Option Addr} {sl__law_value_right : Array (Option Value)} {oc__law_value_right dc__law_value_right pm__law_value_right cd__law_value_right ct__law_value_right : Value} {kV__law_value_right : Value} (l__law_value_right : K.lookup f__law_value_right = some ⟨oc__law_value_right, od__law_value_right, .func (PySem.W.fnOf "_law_value_right" "_law_value_right" (defArgs st_l_value_right) (defBody st_l_value_right) (defScope st_l_value_right) .none kV__law_value_right dc__law_value_right pm__law_value_right an__law_value_right cd__law_value_right ct__law_value_right), sl__law_value_right⟩)
    (c__law_value_right : PySem.W.codeIn K cd__law_value_right "_law_value_right" = true)
    (k__law_value_right : PySem.W.keepIn K (.ref f__law_value_right) = true)
    (a_Number___eq__ : PySem.W.findIn K (.ref C) "__eq__" = some (some (.ref f_Number___eq__)))
    (i_Number___eq__ : PySem.W.isFn K (.ref f_Number___eq__) = true)
    {od_Number___eq__ an_Number___eq__ : Option Addr} {sl_Number___eq__ : Array (Option Value)} {oc_Number___eq__ dc_Number___eq__ pm_Number___eq__ cd_Number___eq__ ct_Number___eq__ : Value} {kV_Number___eq__ : Value} (l_Number___eq__ : K.lookup f_Number___eq__ = some ⟨oc_Number___eq__, od_Number___eq__, .func (PySem.W.fnOf "__eq__" "Number.__eq__" (defArgs st_Number_eq) (defBody st_Number_eq) (defScope st_Number_eq) .none kV_Number___eq__ dc_Number___eq__ pm_Number___eq__ an_Number___eq__ cd_Number___eq__ ct_Number___eq__), sl_Number___eq__⟩)
    (c_Number___eq__ : PySem.W.codeIn K cd_Number___eq__ "Number.__eq__" = true)
    (k_Number___eq__ : PySem.W.keepIn K (.ref f_Number___eq__) = true)
    (c_ne : PySem.W.findIn K (.ref C) "__ne__" = some (some (.builtin "object.__ne__")))
    (a_Number_negated : PySem.W.findIn K (.ref C) "negated" = some (some (.ref f_Number_negated)))
    (i_Number_negated : PySem.W.isFn K (.ref f_Number_negated) = true)
    {od_Number_negated an_Number_negated : Option Addr} {sl_Number_negated : Array (Option Value)} {oc_Number_negated dc_Number_negated pm_Number_negated cd_Number_negated ct_Number_negated : Value} {kV_Number_negated : Value} (l_Number_negated : K.lookup f_Number_negated = some ⟨oc_Number_negated, od_Number_negated, .func (PySem.W.fnOf "negated" "Number.negated" (defArgs st_Number_negated) (defBody st_Number_negated) (defScope st_Number_negated) .none kV_Number_negated dc_Number_negated pm_Number_negated an_Number_negated cd_Number_negated ct_Number_negated), sl_Number_negated⟩)
    (c_Number_negated : PySem.W.codeIn K cd_Number_negated "Number.negated" = true)
    (k_Number_negated : PySem.W.keepIn K (.ref f_Number_negated) = true)
    (z_divmod : PySem.W.nsIn K mainGlobals "divmod" = some none)
    (a_by_word : PySem.W.nsIn K mainGlobals "by_word" = some (some (.ref f_by_word)))
    {od_by_word an_by_word : Option Addr} {sl_by_word : Array (Option Value)} {oc_by_word dc_by_word pm_by_word cd_by_word ct_by_word : Value} {kV_by_word : Value} (l_by_word : K.lookup f_by_word = some ⟨oc_by_word, od_by_word, .func (PySem.W.fnOf "by_word" "by_word" (defArgs st_by_word) (defBody st_by_word) (defScope st_by_word) (.ref dt_by_word) kV_by_word dc_by_word pm_by_word an_by_word cd_by_word ct_by_word), sl_by_word⟩)
    (c_by_word : PySem.W.codeIn K cd_by_word "by_word" = true)
    (k_by_word : PySem.W.keepIn K (.ref f_by_word) = true)
    {to_by_word : Option Addr} {dv_by_word : Value} {tn_by_word : Nat} {ts_by_word : Array (Option Value)} (t_by_word : K.lookup dt_by_word = some ⟨.type "tuple", to_by_word, .seq #[dv_by_word] tn_by_word, ts_by_word⟩)
    (z_repr : PySem.W.nsIn K mainGlobals "repr" = some none)
    (r_MARKS : PySem.W.nsIn K mainGlobals "MARKS" = some (some (.ref a_MARKS)))
    {to_MARKS : Option Addr} {tu0_MARKS tu1_MARKS : Tok} {tn_MARKS : Nat} {ts_MARKS : Array (Option Value)} (tm_MARKS : K.lookup a_MARKS = some ⟨.type "tuple", to_MARKS, .seq #[.str "" tu0_MARKS, .str "-" tu1_MARKS] tn_MARKS, ts_MARKS⟩)
    (a_Number___str__ : PySem.W.findIn K (.ref C) "__str__" = some (some (.ref f_Number___str__)))
    (i_Number___str__ : PySem.W.isFn K (.ref f_Number___str__) = true)
    {od_Number___str__ an_Number___str__ : Option Addr} {sl_Number___str__ : Array (Option Value)} {oc_Number___str__ dc_Number___str__ pm_Number___str__ cd_Number___str__ ct_Number___str__ : Value} {kV_Number___str__ : Value} (l_Number___str__ : K.lookup f_Number___str__ = some ⟨oc_Number___str__, od_Number___str__, .func (PySem.W.fnOf "__str__" "Number.__str__" (defArgs st_Number_str) (defBody st_Number_str) (defScope st_Number_str) .none kV_Number___str__ dc_Number___str__ pm_Number___str__ an_Number___str__ cd_Number___str__ ct_Number___str__), sl_Number___str__⟩)
    (c_Number___str__ : PySem.W.codeIn K cd_Number___str__ "Number.__str__" = true)
    (k_Number___str__ : PySem.W.keepIn K (.ref f_Number___str__) = true)
    (z_str : PySem.W.nsIn K mainGlobals "str" = some none)
    (a__law_is : PySem.W.nsIn K mainGlobals "_law_is" = some (some (.ref f__law_is)))
    {od__law_is an__law_is : Option Addr} {sl__law_is : Array (Option Value)} {oc__law_is dc__law_is pm__law_is cd__law_is ct__law_is : Value} {kV__law_is : Value} (l__law_is : K.lookup f__law_is = some ⟨oc__law_is, od__law_is, .func (PySem.W.fnOf "_law_is" "_law_is" (defArgs st_l_is) (defBody st_l_is) (defScope st_l_is) .none kV__law_is dc__law_is pm__law_is an__law_is cd__law_is ct__law_is), sl__law_is⟩)
    (c__law_is : PySem.W.codeIn K cd__law_is "_law_is" = true)
    (k__law_is : PySem.W.keepIn K (.ref f__law_is) = true)
    (a__law_made_right : PySem.W.nsIn K mainGlobals "_law_made_right" = some (some (.ref f__law_made_right)))
    {od__law_made_right an__law_made_right : Option Addr} {sl__law_made_right : Array (Option Value)} {oc__law_made_right dc__law_made_right pm__law_made_right cd__law_made_right ct__law_made_right : Value} {kV__law_made_right : Value} (l__law_made_right : K.lookup f__law_made_right = some ⟨oc__law_made_right, od__law_made_right, .func (PySem.W.fnOf "_law_made_right" "_law_made_right" (defArgs st_l_made_right) (defBody st_l_made_right) (defScope st_l_made_right) .none kV__law_made_right dc__law_made_right pm__law_made_right an__law_made_right cd__law_made_right ct__law_made_right), sl__law_made_right⟩)
    (c__law_made_right : PySem.W.codeIn K cd__law_made_right "_law_made_right" = true)
    (k__law_made_right : PySem.W.keepIn K (.ref f__law_made_right) = true)
    (a__law_ranked : PySem.W.nsIn K mainGlobals "_law_ranked" = some (some (.ref f__law_ranked)))
    {od__law_ranked an__law_ranked : Option Addr} {sl__law_ranked : Array (Option Value)} {oc__law_ranked dc__law_ranked pm__law_ranked cd__law_ranked ct__law_ranked : Value} {kV__law_ranked : Value} (l__law_ranked : K.lookup f__law_ranked = some ⟨oc__law_ranked, od__law_ranked, .func (PySem.W.fnOf "_law_ranked" "_law_ranked" (defArgs st_l_ranked) (defBody st_l_ranked) (defScope st_l_ranked) .none kV__law_ranked dc__law_ranked pm__law_ranked an__law_ranked cd__law_ranked ct__law_ranked), sl__law_ranked⟩)
    (c__law_ranked : PySem.W.codeIn K cd__law_ranked "_law_ranked" = true)
    (k__law_ranked : PySem.W.keepIn K (.ref f__law_ranked) = true)
    (a_Number_down : PySem.W.findIn K (.ref C) "down" = some (some (.ref f_Number_down)))
    (i_Number_down : PySem.W.isFn K (.ref f_Number_down) = true)
    {od_Number_down an_Number_down : Option Addr} {sl_Number_down : Array (Option Value)} {oc_Number_down dc_Number_down pm_Number_down cd_Number_down ct_Number_down : Value} {kV_Number_down : Value} (l_Number_down : K.lookup f_Number_down = some ⟨oc_Number_down, od_Number_down, .func (PySem.W.fnOf "down" "Number.down" (defArgs st_Number_down) (defBody st_Number_down) (defScope st_Number_down) .none kV_Number_down dc_Number_down pm_Number_down an_Number_down cd_Number_down ct_Number_down), sl_Number_down⟩)
    (c_Number_down : PySem.W.codeIn K cd_Number_down "Number.down" = true)
    (k_Number_down : PySem.W.keepIn K (.ref f_Number_down) = true)
    (a__law_walk_right : PySem.W.nsIn K mainGlobals "_law_walk_right" = some (some (.ref f__law_walk_right)))
    {od__law_walk_right an__law_walk_right : Option Addr} {sl__law_walk_right : Array (Option Value)} {oc__law_walk_right dc__law_walk_right pm__law_walk_right cd__law_walk_right ct__law_walk_right : Value} {kV__law_walk_right : Value} (l__law_walk_right : K.lookup f__law_walk_right = some ⟨oc__law_walk_right, od__law_walk_right, .func (PySem.W.fnOf "_law_walk_right" "_law_walk_right" (defArgs st_l_walk_right) (defBody st_l_walk_right) (defScope st_l_walk_right) .none kV__law_walk_right dc__law_walk_right pm__law_walk_right an__law_walk_right cd__law_walk_right ct__law_walk_right), sl__law_walk_right⟩)
    (c__law_walk_right : PySem.W.codeIn K cd__law_walk_right "_law_walk_right" = true)
    (k__law_walk_right : PySem.W.keepIn K (.ref f__law_walk_right) = true)
    (a__law_all_right : PySem.W.nsIn K mainGlobals "_law_all_right" = some (some (.ref f__law_all_right)))
    {od__law_all_right an__law_all_right : Option Addr} {sl__law_all_right : Array (Option Value)} {oc__law_all_right dc__law_all_right pm__law_all_right cd__law_all_right ct__law_all_right : Value} {kV__law_all_right : Value} (l__law_all_right : K.lookup f__law_all_right = some ⟨oc__law_all_right, od__law_all_right, .func (PySem.W.fnOf "_law_all_right" "_law_all_right" (defArgs st_l_all_right) (defBody st_l_all_right) (defScope st_l_all_right) .none kV__law_all_right dc__law_all_right pm__law_all_right an__law_all_right cd__law_all_right ct__law_all_right), sl__law_all_right⟩)
    (c__law_all_right : PySem.W.codeIn K cd__law_all_right "_law_all_right" = true)
    (k__law_all_right : PySem.W.keepIn K (.ref f__law_all_right) = true)
    (z_enumerate : PySem.W.nsIn K mainGlobals "enumerate" = some none)
    (a__law_folded : PySem.W.nsIn K mainGlobals "_law_folded" = some (some (.ref f__law_folded)))
    {od__law_folded an__law_folded : Option Addr} {sl__law_folded : Array (Option Value)} {oc__law_folded dc__law_folded pm__law_folded cd__law_folded ct__law_folded : Value} {kV__law_folded : Value} (l__law_folded : K.lookup f__law_folded = some ⟨oc__law_folded, od__law_folded, .func (PySem.W.fnOf "_law_folded" "_law_folded" (defArgs st_l_folded) (defBody st_l_folded) (defScope st_l_folded) .none kV__law_folded dc__law_folded pm__law_folded an__law_folded cd__law_folded ct__law_folded), sl__law_folded⟩)
    (c__law_folded : PySem.W.codeIn K cd__law_folded "_law_folded" = true)
    (k__law_folded : PySem.W.keepIn K (.ref f__law_folded) = true)
    (a__law_begun : PySem.W.nsIn K mainGlobals "_law_begun" = some (some (.ref f__law_begun)))
    {od__law_begun an__law_begun : Option Addr} {sl__law_begun : Array (Option Value)} {oc__law_begun dc__law_begun pm__law_begun cd__law_begun ct__law_begun : Value} {kV__law_begun : Value} (l__law_begun : K.lookup f__law_begun = some ⟨oc__law_begun, od__law_begun, .func (PySem.W.fnOf "_law_begun" "_law_begun" (defArgs st_l_begun) (defBody st_l_begun) (defScope st_l_begun) .none kV__law_begun dc__law_begun pm__law_begun an__law_begun cd__law_begun ct__law_begun), sl__law_begun⟩)
    (c__law_begun : PySem.W.codeIn K cd__law_begun "_law_begun" = true)
    (k__law_begun : PySem.W.keepIn K (.ref f__law_begun) = true)
    (a_law : PySem.W.nsIn K mainGlobals "law" = some (some (.ref f_law)))
    {od_law an_law : Option Addr} {sl_law : Array (Option Value)} {oc_law dc_law pm_law cd_law ct_law : Value} {kV_law : Value} (l_law : K.lookup f_law = some ⟨oc_law, od_law, .func (PySem.W.fnOf "law" "law" (defArgs st_law) (defBody st_law) (defScope st_law) .none kV_law dc_law pm_law an_law cd_law ct_law), sl_law⟩)
    (c_law : PySem.W.codeIn K cd_law "law" = true)
    (k_law : PySem.W.keepIn K (.ref f_law) = true) :
    ∃ fd : FuncData, (∀ (s : Shared) (u : Value), BindsTo s fd ⟨[u], []⟩ [("_law_script", u)]) ∧ ∀ base : Heap, K.In base → base.Ns mainGlobals mg → FnOk l.prog w K mg base CX0 13 fa fd ["_law_script"] (spLaw K) := by
  have e := hfa.symm.trans (PySem.W.mg_of X G a_law)
  cases e
  have nb_range := PySem.W.mg_none_of X G z_range
  have nb_max := PySem.W.mg_none_of X G z_max
  have nb_abs := PySem.W.mg_none_of X G z_abs
  have cl : Cls K C := ⟨c_pg, c_hd, c_po, c_sa⟩
  have T : NumC K C := ⟨cl, n_own_shape, n_own_sign, n_own_significand, n_own_exponent, n_state, c_ha, c_hn, c_htk, c_hm⟩
  have N_Number := PySem.W.mg_of X G a_Number
  have F_first_normal := fun_mk (st := st_first_normal) l_first_normal c_first_normal k_first_normal
  have b_first_normal := F_first_normal.binds (ps := ["shape"]) fun _ _ _ _ _ _ us hl => match us, hl with | [_], _ => rfl
  have F_Number_shape := fun_mk (st := st_Number_shape) l_Number_shape c_Number_shape k_Number_shape
  have b_Number_shape := F_Number_shape.binds (ps := ["self"]) fun _ _ _ _ _ _ us hl => match us, hl with | [_], _ => rfl
  have G_FINITE : GStr mg "FINITE" "finite" := ⟨_, PySem.W.mg_of X G g_FINITE⟩
  have F_Number_parts := fun_mk (st := st_Number_parts) l_Number_parts c_Number_parts k_Number_parts
  have b_Number_parts := F_Number_parts.binds (ps := ["self"]) fun _ _ _ _ _ _ us hl => match us, hl with | [_], _ => rfl
  have F_Number_kind := fun_mk (st := st_Number_kind) l_Number_kind c_Number_kind k_Number_kind
  have b_Number_kind := F_Number_kind.binds (ps := ["self"]) fun _ _ _ _ _ _ us hl => match us, hl with | [_], _ => rfl
  have G_INFINITE : GStr mg "INFINITE" "infinite" := ⟨_, PySem.W.mg_of X G g_INFINITE⟩
  have F_last_rank := fun_mk (st := st_last_rank) l_last_rank c_last_rank k_last_rank
  have b_last_rank := F_last_rank.binds (ps := ["shape"]) fun _ _ _ _ _ _ us hl => match us, hl with | [_], _ => rfl
  have F_steps_from_zero := fun_mk (st := st_steps_from_zero) l_steps_from_zero c_steps_from_zero k_steps_from_zero
  have b_steps_from_zero := F_steps_from_zero.binds (ps := ["number"]) fun _ _ _ _ _ _ us hl => match us, hl with | [_], _ => rfl
  have G_NAN : GStr mg "NAN" "nan" := ⟨_, PySem.W.mg_of X G g_NAN⟩
  have F_Number_rank := fun_mk (st := st_Number_rank) l_Number_rank c_Number_rank k_Number_rank
  have b_Number_rank := F_Number_rank.binds (ps := ["self"]) fun _ _ _ _ _ _ us hl => match us, hl with | [_], _ => rfl
  have nb_isinstance := PySem.W.mg_none_of X G z_isinstance
  have F_want_number := fun_mk (st := st_want_number) l_want_number c_want_number k_want_number
  have b_want_number := F_want_number.binds (ps := ["thing"]) fun _ _ _ _ _ _ us hl => match us, hl with | [_], _ => rfl
  have F_between := fun_mk (st := st_between) l_between c_between k_between
  have b_between := F_between.binds (ps := ["one", "other"]) fun _ _ _ _ _ _ us hl => match us, hl with | [_, _], _ => rfl
  have F_order := fun_mk (st := st_order) l_order c_order k_order
  have b_order := F_order.binds (ps := ["left", "right"]) fun _ _ _ _ _ _ us hl => match us, hl with | [_, _], _ => rfl
  have nb_min := PySem.W.mg_none_of X G z_min
  have F_by_twos := fun_mk (st := st_by_twos) l_by_twos c_by_twos k_by_twos
  have b_by_twos := F_by_twos.binds (ps := ["numerator", "exponent"]) fun _ _ _ _ _ _ us hl => match us, hl with | [_, _], _ => rfl
  have F_Number_value := fun_mk (st := st_Number_value) l_Number_value c_Number_value k_Number_value
  have b_Number_value := F_Number_value.binds (ps := ["self"]) fun _ _ _ _ _ _ us hl => match us, hl with | [_], _ => rfl
  have F_Number_sign := fun_mk (st := st_Number_sign) l_Number_sign c_Number_sign k_Number_sign
  have b_Number_sign := F_Number_sign.binds (ps := ["self"]) fun _ _ _ _ _ _ us hl => match us, hl with | [_], _ => rfl
  have F_side := fun_mk (st := st_side) l_side c_side k_side
  have b_side := F_side.binds (ps := ["number"]) fun _ _ _ _ _ _ us hl => match us, hl with | [_], _ => rfl
  have F_compare := fun_mk (st := st_compare) l_compare c_compare k_compare
  have b_compare := F_compare.binds (ps := ["one", "other"]) fun _ _ _ _ _ _ us hl => match us, hl with | [_, _], _ => rfl
  have F__law_top := fun_mk (st := st_l_top) l__law_top c__law_top k__law_top
  have b__law_top := F__law_top.binds (ps := ["_law_form"]) fun _ _ _ _ _ _ us hl => match us, hl with | [_], _ => rfl
  have F__law_rank := fun_mk (st := st_l_rank) l__law_rank c__law_rank k__law_rank
  have b__law_rank := F__law_rank.binds (ps := ["_law_plain"]) fun _ _ _ _ _ _ us hl => match us, hl with | [_], _ => rfl
  have nb_len := PySem.W.mg_none_of X G z_len
  have F__law_mixed := fun_mk (st := st_l_mixed) l__law_mixed c__law_mixed k__law_mixed
  have b__law_mixed := F__law_mixed.binds (ps := ["_law_cell", "_law_k"]) fun _ _ _ _ _ _ us hl => match us, hl with | [_, _], _ => rfl
  have F__law_draw := fun_mk (st := st_l_draw) l__law_draw c__law_draw k__law_draw
  have b__law_draw := F__law_draw.binds (ps := ["_law_m", "_law_top_here"]) fun _ _ _ _ _ _ us hl => match us, hl with | [_, _], _ => rfl
  have F__law_order_right := fun_mk (st := st_l_order_right) l__law_order_right c__law_order_right k__law_order_right
  have b__law_order_right := F__law_order_right.binds (ps := ["_law_m", "_law_found", "_law_numbers"]) fun _ _ _ _ _ _ us hl => match us, hl with | [_, _, _], _ => rfl
  have nb_set := PySem.W.mg_none_of X G z_set
  have nb_bool := PySem.W.mg_none_of X G z_bool
  have nb_int := PySem.W.mg_none_of X G z_int
  have F_is_whole := fun_mk (st := st_is_whole) l_is_whole c_is_whole k_is_whole
  have b_is_whole := F_is_whole.binds (ps := ["thing", "least", "most"]) fun _ _ _ _ _ _ us hl => match us, hl with | [_, _, _], _ => rfl
  have F_want_whole := fun_mk (st := st_want_whole) l_want_whole c_want_whole k_want_whole
  have b_want_whole := F_want_whole.binds (ps := ["thing", "least", "most", "what"]) fun _ _ _ _ _ _ us hl => match us, hl with | [_, _, _, _], _ => rfl
  have I_LOW_LEAST : GInt mg "LOW_LEAST" (-1100) := ⟨⟨_, by rw [PySem.W.mg_of X G g_LOW_LEAST, v_LOW_LEAST]⟩⟩
  have nb_tuple := PySem.W.mg_none_of X G z_tuple
  have F_is_shape := fun_mk (st := st_is_shape) l_is_shape c_is_shape k_is_shape
  have b_is_shape := F_is_shape.binds (ps := ["thing"]) fun _ _ _ _ _ _ us hl => match us, hl with | [_], _ => rfl
  have F_want_shape := fun_mk (st := st_want_shape) l_want_shape c_want_shape k_want_shape
  have b_want_shape := F_want_shape.binds (ps := ["thing"]) fun _ _ _ _ _ _ us hl => match us, hl with | [_], _ => rfl
  have D_Number___init__ : Dfl K (.ref dt_Number___init__) [dv_Number___init__] := ⟨⟨_, _, _, rfl, t_Number___init__, rfl⟩⟩
  have F_Number___init__ := funD_mk (st := st_Number_init) l_Number___init__ c_Number___init__ k_Number___init__
  have D_nan : Dfl K (.ref dt_nan) [dv_nan] := ⟨⟨_, _, _, rfl, t_nan, rfl⟩⟩
  have F_nan := funD_mk (st := st_nan) l_nan c_nan k_nan
  have F_field_bits := fun_mk (st := st_field_bits) l_field_bits c_field_bits k_field_bits
  have b_field_bits := F_field_bits.binds (ps := ["shape"]) fun _ _ _ _ _ _ us hl => match us, hl with | [_], _ => rfl
  have F_sign_word := fun_mk (st := st_sign_word) l_sign_word c_sign_word k_sign_word
  have b_sign_word := F_sign_word.binds (ps := ["shape"]) fun _ _ _ _ _ _ us hl => match us, hl with | [_], _ => rfl
  have F_top_word := fun_mk (st := st_top_word) l_top_word c_top_word k_top_word
  have b_top_word := F_top_word.binds (ps := ["shape"]) fun _ _ _ _ _ _ us hl => match us, hl with | [_], _ => rfl
  have F_Number_word := fun_mk (st := st_Number_word) l_Number_word c_Number_word k_Number_word
  have b_Number_word := F_Number_word.binds (ps := ["self"]) fun _ _ _ _ _ _ us hl => match us, hl with | [_], _ => rfl
  have D_infinite : Dfl K (.ref dt_infinite) [dv_infinite] := ⟨⟨_, _, _, rfl, t_infinite, rfl⟩⟩
  have F_infinite := funD_mk (st := st_infinite) l_infinite c_infinite k_infinite
  have F_by_steps := fun_mk (st := st_by_steps) l_by_steps c_by_steps k_by_steps
  have b_by_steps := F_by_steps.binds (ps := ["steps", "shape", "sign"]) fun _ _ _ _ _ _ us hl => match us, hl with | [_, _, _], _ => rfl
  have D_by_rank : Dfl K (.ref dt_by_rank) [dv_by_rank] := ⟨⟨_, _, _, rfl, t_by_rank, rfl⟩⟩
  have F_by_rank := funD_mk (st := st_by_rank) l_by_rank c_by_rank k_by_rank
  have F_moved := fun_mk (st := st_moved) l_moved c_moved k_moved
  have b_moved := F_moved.binds (ps := ["number", "step"]) fun _ _ _ _ _ _ us hl => match us, hl with | [_, _], _ => rfl
  have F_Number_up := fun_mk (st := st_Number_up) l_Number_up c_Number_up k_Number_up
  have b_Number_up := F_Number_up.binds (ps := ["self"]) fun _ _ _ _ _ _ us hl => match us, hl with | [_], _ => rfl
  have F__law_value_right := fun_mk (st := st_l_value_right) l__law_value_right c__law_value_right k__law_value_right
  have b__law_value_right := F__law_value_right.binds (ps := ["_law_number"]) fun _ _ _ _ _ _ us hl => match us, hl with | [_], _ => rfl
  have F_Number___eq__ := fun_mk (st := st_Number_eq) l_Number___eq__ c_Number___eq__ k_Number___eq__
  have b_Number___eq__ := F_Number___eq__.binds (ps := ["self", "other"]) fun _ _ _ _ _ _ us hl => match us, hl with | [_, _], _ => rfl
  have F_Number_negated := fun_mk (st := st_Number_negated) l_Number_negated c_Number_negated k_Number_negated
  have b_Number_negated := F_Number_negated.binds (ps := ["self"]) fun _ _ _ _ _ _ us hl => match us, hl with | [_], _ => rfl
  have nb_divmod := PySem.W.mg_none_of X G z_divmod
  have D_by_word : Dfl K (.ref dt_by_word) [dv_by_word] := ⟨⟨_, _, _, rfl, t_by_word, rfl⟩⟩
  have F_by_word := funD_mk (st := st_by_word) l_by_word c_by_word k_by_word
  have nb_repr := PySem.W.mg_none_of X G z_repr
  have R_MARKS := PySem.W.mg_of X G r_MARKS
  have TM_MARKS : TupK K a_MARKS ["", "-"] := fun H => ⟨_, rfl, .inr ⟨_, _, _, tm_MARKS, rfl, rfl, Nat.le_trans (show 2 ≤ 1000 by decide) (Nat.le_of_lt (small1000 (Nat.le_refl _))), .cons ⟨_, rfl⟩ (.cons ⟨_, rfl⟩ (.nil))⟩⟩
  have F_Number___str__ := fun_mk (st := st_Number_str) l_Number___str__ c_Number___str__ k_Number___str__
  have b_Number___str__ := F_Number___str__.binds (ps := ["self"]) fun _ _ _ _ _ _ us hl => match us, hl with | [_], _ => rfl
  have nb_str := PySem.W.mg_none_of X G z_str
  have F__law_is := fun_mk (st := st_l_is) l__law_is c__law_is k__law_is
  have b__law_is := F__law_is.binds (ps := ["_law_number", "_law_plain"]) fun _ _ _ _ _ _ us hl => match us, hl with | [_, _], _ => rfl
  have F__law_made_right := fun_mk (st := st_l_made_right) l__law_made_right c__law_made_right k__law_made_right
  have b__law_made_right := F__law_made_right.binds (ps := ["_law_plain"]) fun _ _ _ _ _ _ us hl => match us, hl with | [_], _ => rfl
  have F__law_ranked := fun_mk (st := st_l_ranked) l__law_ranked c__law_ranked k__law_ranked
  have b__law_ranked := F__law_ranked.binds (ps := ["_law_form", "_law_place", "_law_side"]) fun _ _ _ _ _ _ us hl => match us, hl with | [_, _, _], _ => rfl
  have F_Number_down := fun_mk (st := st_Number_down) l_Number_down c_Number_down k_Number_down
  have b_Number_down := F_Number_down.binds (ps := ["self"]) fun _ _ _ _ _ _ us hl => match us, hl with | [_], _ => rfl
  have F__law_walk_right := fun_mk (st := st_l_walk_right) l__law_walk_right c__law_walk_right k__law_walk_right
  have b__law_walk_right := F__law_walk_right.binds (ps := ["_law_form", "_law_found", "_law_back"]) fun _ _ _ _ _ _ us hl => match us, hl with | [_, _, _], _ => rfl
  have F__law_all_right := fun_mk (st := st_l_all_right) l__law_all_right c__law_all_right k__law_all_right
  have b__law_all_right := F__law_all_right.binds (ps := ["_law_m", "_law_form"]) fun _ _ _ _ _ _ us hl => match us, hl with | [_, _], _ => rfl
  have nb_enumerate := PySem.W.mg_none_of X G z_enumerate
  have F__law_folded := fun_mk (st := st_l_folded) l__law_folded c__law_folded k__law_folded
  have b__law_folded := F__law_folded.binds (ps := ["_law_script"]) fun _ _ _ _ _ _ us hl => match us, hl with | [_], _ => rfl
  have F__law_begun := fun_mk (st := st_l_begun) l__law_begun c__law_begun k__law_begun
  have b__law_begun := F__law_begun.binds (ps := ["_law_script"]) fun _ _ _ _ _ _ us hl => match us, hl with | [_], _ => rfl
  have F_law := fun_mk (st := st_law) l_law c_law k_law
  refine ⟨PySem.W.fnOf "law" "law" (defArgs st_law) (defBody st_law) (defScope st_law) .none kV_law dc_law pm_law an_law cd_law ct_law, fun s v => .of_eq rfl, fun base _ _ => ?_⟩
  have Q_first_normal : FnOk l.prog w K mg base CX0 1 f_first_normal _ ["shape"] (spShInt K Dw.Sh.fn) := ok_first_normal F_first_normal 
  have C_first_normal : Cal l.prog w K mg base 1 "first_normal" ["shape"] (spShInt K Dw.Sh.fn) := ⟨⟨_, _, Q_first_normal, PySem.W.mg_of X G a_first_normal, k_first_normal, b_first_normal⟩⟩
  have Q_Number_shape : FnOk l.prog w K mg base CX0 1 f_Number_shape _ ["self"] (spShapeM K C) := ok_Number_shape F_Number_shape T
  have O_shape : CalO l.prog w K mg base 1 C "shape" ["self"] (spShapeM K C) := ⟨⟨_, _, cl, ⟨a_Number_shape, i_Number_shape, k_Number_shape⟩, Q_Number_shape, b_Number_shape⟩⟩
  have Q_Number_parts : FnOk l.prog w K mg base CX0 1 f_Number_parts _ ["self"] (spParts K C) := ok_Number_parts F_Number_parts T G_FINITE
  have O_parts : CalO l.prog w K mg base 1 C "parts" ["self"] (spParts K C) := ⟨⟨_, _, cl, ⟨a_Number_parts, i_Number_parts, k_Number_parts⟩, Q_Number_parts, b_Number_parts⟩⟩
  have Q_Number_kind : FnOk l.prog w K mg base CX0 2 f_Number_kind _ ["self"] (spKind K C) := ok_Number_kind F_Number_kind T C_first_normal G_FINITE
  have O_kind : CalO l.prog w K mg base 2 C "kind" ["self"] (spKind K C) := ⟨⟨_, _, cl, ⟨a_Number_kind, i_Number_kind, k_Number_kind⟩, Q_Number_kind, b_Number_kind⟩⟩
  have Q_last_rank : FnOk l.prog w K mg base CX0 2 f_last_rank _ ["shape"] (spShInt K Dw.Sh.last) := ok_last_rank F_last_rank C_first_normal
  have C_last_rank : Cal l.prog w K mg base 2 "last_rank" ["shape"] (spShInt K Dw.Sh.last) := ⟨⟨_, _, Q_last_rank, PySem.W.mg_of X G a_last_rank, k_last_rank, b_last_rank⟩⟩
  have Q_steps_from_zero : FnOk l.prog w K mg base CX0 3 f_steps_from_zero _ ["number"] (spSteps K C) := ok_steps_from_zero F_steps_from_zero C_first_normal T O_shape O_parts O_kind G_INFINITE C_last_rank
  have C_steps_from_zero : Cal l.prog w K mg base 3 "steps_from_zero" ["number"] (spSteps K C) := ⟨⟨_, _, Q_steps_from_zero, PySem.W.mg_of X G a_steps_from_zero, k_steps_from_zero, b_steps_from_zero⟩⟩
  have Q_Number_rank : FnOk l.prog w K mg base CX0 4 f_Number_rank _ ["self"] (spRank K C) := ok_Number_rank F_Number_rank T C_steps_from_zero G_NAN
  have O_rank : CalO l.prog w K mg base 4 C "rank" ["self"] (spRank K C) := ⟨⟨_, _, cl, ⟨a_Number_rank, i_Number_rank, k_Number_rank⟩, Q_Number_rank, b_Number_rank⟩⟩
  have Q_want_number : FnOk l.prog w K mg base CX0 1 f_want_number _ ["thing"] (spWantNumber K C) := ok_want_number F_want_number T nb_isinstance N_Number
  have C_want_number : Cal l.prog w K mg base 1 "want_number" ["thing"] (spWantNumber K C) := ⟨⟨_, _, Q_want_number, PySem.W.mg_of X G a_want_number, k_want_number, b_want_number⟩⟩
  have Q_between : FnOk l.prog w K mg base CX0 5 f_between _ ["one", "other"] (spBetween K C) := ok_between F_between nb_max nb_abs T O_rank O_shape C_want_number
  have C_between : Cal l.prog w K mg base 5 "between" ["one", "other"] (spBetween K C) := ⟨⟨_, _, Q_between, PySem.W.mg_of X G a_between, k_between, b_between⟩⟩
  have Q_order : FnOk l.prog w K mg base CX0 1 f_order _ ["left", "right"] (spOrder) := ok_order F_order 
  have C_order : Cal l.prog w K mg base 1 "order" ["left", "right"] (spOrder) := ⟨⟨_, _, Q_order, PySem.W.mg_of X G a_order, k_order, b_order⟩⟩
  have Q_by_twos : FnOk l.prog w K mg base CX0 1 f_by_twos _ ["numerator", "exponent"] (spByTwos K) := ok_by_twos F_by_twos nb_min
  have C_by_twos : Cal l.prog w K mg base 1 "by_twos" ["numerator", "exponent"] (spByTwos K) := ⟨⟨_, _, Q_by_twos, PySem.W.mg_of X G a_by_twos, k_by_twos, b_by_twos⟩⟩
  have Q_Number_value : FnOk l.prog w K mg base CX0 2 f_Number_value _ ["self"] (spValue K C) := ok_Number_value F_Number_value C_by_twos T O_parts
  have O_value : CalO l.prog w K mg base 2 C "value" ["self"] (spValue K C) := ⟨⟨_, _, cl, ⟨a_Number_value, i_Number_value, k_Number_value⟩, Q_Number_value, b_Number_value⟩⟩
  have Q_Number_sign : FnOk l.prog w K mg base CX0 1 f_Number_sign _ ["self"] (spNmInt K C Dw.Nm.s) := ok_Number_sign F_Number_sign T
  have O_sign : CalO l.prog w K mg base 1 C "sign" ["self"] (spNmInt K C Dw.Nm.s) := ⟨⟨_, _, cl, ⟨a_Number_sign, i_Number_sign, k_Number_sign⟩, Q_Number_sign, b_Number_sign⟩⟩
  have Q_side : FnOk l.prog w K mg base CX0 3 f_side _ ["number"] (spNmInt K C Dw.Nm.side) := ok_side F_side T O_sign O_kind G_INFINITE
  have C_side : Cal l.prog w K mg base 3 "side" ["number"] (spNmInt K C Dw.Nm.side) := ⟨⟨_, _, Q_side, PySem.W.mg_of X G a_side, k_side, b_side⟩⟩
  have Q_compare : FnOk l.prog w K mg base CX0 4 f_compare _ ["one", "other"] (spCompareN K C) := ok_compare F_compare C_order T O_value O_kind G_INFINITE C_side G_NAN C_want_number
  have C_compare : Cal l.prog w K mg base 4 "compare" ["one", "other"] (spCompareN K C) := ⟨⟨_, _, Q_compare, PySem.W.mg_of X G a_compare, k_compare, b_compare⟩⟩
  have Q__law_top : FnOk l.prog w K mg base CX0 1 f__law_top _ ["_law_form"] (spShInt K Dw.Sh.last) := ok_l_top F__law_top 
  have C__law_top : Cal l.prog w K mg base 1 "_law_top" ["_law_form"] (spShInt K Dw.Sh.last) := ⟨⟨_, _, Q__law_top, PySem.W.mg_of X G a__law_top, k__law_top, b__law_top⟩⟩
  have Q__law_rank : FnOk l.prog w K mg base CX0 2 f__law_rank _ ["_law_plain"] (spRankP K) := ok_l_rank F__law_rank C__law_top
  have C__law_rank : Cal l.prog w K mg base 2 "_law_rank" ["_law_plain"] (spRankP K) := ⟨⟨_, _, Q__law_rank, PySem.W.mg_of X G a__law_rank, k__law_rank, b__law_rank⟩⟩
  have Q__law_mixed : FnOk l.prog w K mg base CX0 1 f__law_mixed _ ["_law_cell", "_law_k"] (spMixed) := ok_mixed F__law_mixed 
  have C__law_mixed : Cal l.prog w K mg base 1 "_law_mixed" ["_law_cell", "_law_k"] (spMixed) := ⟨⟨_, _, Q__law_mixed, PySem.W.mg_of X G a__law_mixed, k__law_mixed, b__law_mixed⟩⟩
  have Q__law_draw : FnOk l.prog w K mg base CX0 2 f__law_draw _ ["_law_m", "_law_top_here"] (spDraw) := ok_draw F__law_draw nb_len C__law_mixed
  have C__law_draw : Cal l.prog w K mg base 2 "_law_draw" ["_law_m", "_law_top_here"] (spDraw) := ⟨⟨_, _, Q__law_draw, PySem.W.mg_of X G a__law_draw, k__law_draw, b__law_draw⟩⟩
  have Q__law_order_right : FnOk l.prog w K mg base CX0 6 f__law_order_right _ ["_law_m", "_law_found", "_law_numbers"] (spOrd K C) := ok_l_order_right F__law_order_right nb_range C_between nb_max nb_abs C_compare C__law_rank nb_min C__law_draw nb_len
  have C__law_order_right : Cal l.prog w K mg base 6 "_law_order_right" ["_law_m", "_law_found", "_law_numbers"] (spOrd K C) := ⟨⟨_, _, Q__law_order_right, PySem.W.mg_of X G a__law_order_right, k__law_order_right, b__law_order_right⟩⟩
  have Q_is_whole : FnOk l.prog w K mg base CX0 1 f_is_whole _ ["thing", "least", "most"] (spIsWhole) := ok_is_whole F_is_whole nb_isinstance nb_bool nb_int
  have C_is_whole : Cal l.prog w K mg base 1 "is_whole" ["thing", "least", "most"] (spIsWhole) := ⟨⟨_, _, Q_is_whole, PySem.W.mg_of X G a_is_whole, k_is_whole, b_is_whole⟩⟩
  have Q_want_whole : FnOk l.prog w K mg base CX0 2 f_want_whole _ ["thing", "least", "most", "what"] (spWantWhole) := ok_want_whole F_want_whole C_is_whole
  have C_want_whole : Cal l.prog w K mg base 2 "want_whole" ["thing", "least", "most", "what"] (spWantWhole) := ⟨⟨_, _, Q_want_whole, PySem.W.mg_of X G a_want_whole, k_want_whole, b_want_whole⟩⟩
  have Q_is_shape : FnOk l.prog w K mg base CX0 2 f_is_shape _ ["thing"] (spIsShape K) := ok_is_shape F_is_shape C_is_whole I_LOW_LEAST nb_len nb_isinstance nb_tuple
  have C_is_shape : Cal l.prog w K mg base 2 "is_shape" ["thing"] (spIsShape K) := ⟨⟨_, _, Q_is_shape, PySem.W.mg_of X G a_is_shape, k_is_shape, b_is_shape⟩⟩
  have Q_want_shape : FnOk l.prog w K mg base CX0 3 f_want_shape _ ["thing"] (spWantShape K) := ok_want_shape F_want_shape C_is_shape
  have C_want_shape : Cal l.prog w K mg base 3 "want_shape" ["thing"] (spWantShape K) := ⟨⟨_, _, Q_want_shape, PySem.W.mg_of X G a_want_shape, k_want_shape, b_want_shape⟩⟩
  have Q_Number___init__ : FnOk l.prog w K mg base CX0 4 f_Number___init__ _ ["self", "shape", "sign", "significand", "exponent"] (spInit K C) := ok_Number_init F_Number___init__ T G_FINITE C_first_normal C_want_whole C_want_shape
  have M_Number_1 : CalM l.prog w K mg base 4 "Number" C ["self", "shape", "sign", "significand", "exponent"] [] gV_Number_init_2 (spInit K C) := by
    refine ⟨⟨_, _, fun us ws => (match us, ws with | [a0, a1], [] => [a0, a1, .int 0 tk_Number___init___sign, .int 0 tk_Number___init___significand, .none] | _, _ => []), ⟨c_mk, a_Number___init__, i_Number___init__, c_kp⟩, Q_Number___init__, N_Number, ?_, ?_⟩⟩
    · intro s us ws X' hl
      match us, ws, hl with
      | [a0, a1], [], _ =>
        intro M A E Q hq
        unfold bindArgs
        walk_at "bd"
        exact wpAny_pure hq
    · intro vs us zs ws r1 r2
      cases r1 with
      | nil => exact .nil
      | cons ha0 r1 =>
        cases r1 with
        | nil => exact .nil
        | cons ha1 r1 =>
          cases r1 with
          | cons _ _ => exact .nil
          | nil =>
            cases r2 with
            | cons _ _ => exact .nil
            | nil =>
              exact .cons ha0 (.cons ha1 (.cons ⟨_, rfl⟩ (.cons ⟨_, rfl⟩ (.cons rfl (.nil)))))
  have Q_nan : FnOk l.prog w K mg base CX0 6 f_nan _ ["shape"] (spNan K C) := ok_nan F_nan T G_NAN M_Number_1
  have K_nan_1 : CalK l.prog w K mg base 6 "nan" ["shape"] [] gV_nan_1 (spNan K C) := by
    refine ⟨⟨_, _, fun us ws => (match us, ws with | [a0], [] => [a0] | _, _ => []), Q_nan, PySem.W.mg_of X G a_nan, k_nan, ?_, ?_⟩⟩
    · intro s us ws X' hl
      match us, ws, hl with
      | [a0], [], _ =>
        intro M A E Q hq
        unfold bindArgs
        walk_at "bd"
        exact wpAny_pure hq
    · intro vs us zs ws r1 r2
      cases r1 with
      | nil => exact .nil
      | cons ha0 r1 =>
        cases r1 with
        | cons _ _ => exact .nil
        | nil =>
          cases r2 with
          | cons _ _ => exact .nil
          | nil =>
            exact .cons ha0 (.nil)
  have Q_field_bits : FnOk l.prog w K mg base CX0 1 f_field_bits _ ["shape"] (spShInt K fun S => S.fb) := ok_field_bits F_field_bits 
  have C_field_bits : Cal l.prog w K mg base 1 "field_bits" ["shape"] (spShInt K fun S => S.fb) := ⟨⟨_, _, Q_field_bits, PySem.W.mg_of X G a_field_bits, k_field_bits, b_field_bits⟩⟩
  have Q_sign_word : FnOk l.prog w K mg base CX0 2 f_sign_word _ ["shape"] (spShInt K Dw.Sh.sgnW) := ok_sign_word F_sign_word C_first_normal C_field_bits
  have C_sign_word : Cal l.prog w K mg base 2 "sign_word" ["shape"] (spShInt K Dw.Sh.sgnW) := ⟨⟨_, _, Q_sign_word, PySem.W.mg_of X G a_sign_word, k_sign_word, b_sign_word⟩⟩
  have Q_top_word : FnOk l.prog w K mg base CX0 2 f_top_word _ ["shape"] (spShInt K Dw.Sh.topW) := ok_top_word F_top_word C_field_bits C_first_normal
  have C_top_word : Cal l.prog w K mg base 2 "top_word" ["shape"] (spShInt K Dw.Sh.topW) := ⟨⟨_, _, Q_top_word, PySem.W.mg_of X G a_top_word, k_top_word, b_top_word⟩⟩
  have Q_Number_word : FnOk l.prog w K mg base CX0 4 f_Number_word _ ["self"] (spWord K C) := ok_Number_word F_Number_word T C_sign_word G_INFINITE C_top_word C_steps_from_zero G_NAN
  have O_word : CalO l.prog w K mg base 4 C "word" ["self"] (spWord K C) := ⟨⟨_, _, cl, ⟨a_Number_word, i_Number_word, k_Number_word⟩, Q_Number_word, b_Number_word⟩⟩
  have M_Number_1_sign_significand_exponent : CalM l.prog w K mg base 4 "Number" C ["self", "shape", "sign", "significand", "exponent"] ["sign", "significand", "exponent"] gV_Number_init_2_sign_significand_exponent (spInit K C) := by
    refine ⟨⟨_, _, fun us ws => (match us, ws with | [a0, a1], [k0, k1, k2] => [a0, a1, k0, k1, k2] | _, _ => []), ⟨c_mk, a_Number___init__, i_Number___init__, c_kp⟩, Q_Number___init__, N_Number, ?_, ?_⟩⟩
    · intro s us ws X' hl
      match us, ws, hl with
      | [a0, a1], [k0, k1, k2], _ =>
        intro M A E Q hq
        unfold bindArgs
        walk_at "bd"
        exact wpAny_pure hq
    · intro vs us zs ws r1 r2
      cases r1 with
      | nil => exact .nil
      | cons ha0 r1 =>
        cases r1 with
        | nil => exact .nil
        | cons ha1 r1 =>
          cases r1 with
          | cons _ _ => exact .nil
          | nil =>
            cases r2 with
            | nil => exact .nil
            | cons hk0 r2 =>
              cases r2 with
              | nil => exact .nil
              | cons hk1 r2 =>
                cases r2 with
                | nil => exact .nil
                | cons hk2 r2 =>
                  cases r2 with
                  | cons _ _ => exact .nil
                  | nil =>
                    exact .cons ha0 (.cons ha1 (.cons hk0 (.cons hk1 (.cons hk2 (.nil)))))
  have M_Number_1_sign : CalM l.prog w K mg base 4 "Number" C ["self", "shape", "sign", "significand", "exponent"] ["sign"] gV_Number_init_2_sign (spInit K C) := by
    refine ⟨⟨_, _, fun us ws => (match us, ws with | [a0, a1], [k0] => [a0, a1, k0, .int 0 tk_Number___init___significand, .none] | _, _ => []), ⟨c_mk, a_Number___init__, i_Number___init__, c_kp⟩, Q_Number___init__, N_Number, ?_, ?_⟩⟩
    · intro s us ws X' hl
      match us, ws, hl with
      | [a0, a1], [k0], _ =>
        intro M A E Q hq
        unfold bindArgs
        walk_at "bd"
        exact wpAny_pure hq
    · intro vs us zs ws r1 r2
      cases r1 with
      | nil => exact .nil
      | cons ha0 r1 =>
        cases r1 with
        | nil => exact .nil
        | cons ha1 r1 =>
          cases r1 with
          | cons _ _ => exact .nil
          | nil =>
            cases r2 with
            | nil => exact .nil
            | cons hk0 r2 =>
              cases r2 with
              | cons _ _ => exact .nil
              | nil =>
                exact .cons ha0 (.cons ha1 (.cons hk0 (.cons ⟨_, rfl⟩ (.cons rfl (.nil)))))
  have Q_infinite : FnOk l.prog w K mg base CX0 6 f_infinite _ ["shape", "sign"] (spInf K C) := ok_infinite F_infinite T G_INFINITE M_Number_1_sign
  have K_infinite_1_sign : CalK l.prog w K mg base 6 "infinite" ["shape", "sign"] ["sign"] gV_infinite_1_sign (spInf K C) := by
    refine ⟨⟨_, _, fun us ws => (match us, ws with | [a0], [k0] => [a0, k0] | _, _ => []), Q_infinite, PySem.W.mg_of X G a_infinite, k_infinite, ?_, ?_⟩⟩
    · intro s us ws X' hl
      match us, ws, hl with
      | [a0], [k0], _ =>
        intro M A E Q hq
        unfold bindArgs
        walk_at "bd"
        exact wpAny_pure hq
    · intro vs us zs ws r1 r2
      cases r1 with
      | nil => exact .nil
      | cons ha0 r1 =>
        cases r1 with
        | cons _ _ => exact .nil
        | nil =>
          cases r2 with
          | nil => exact .nil
          | cons hk0 r2 =>
            cases r2 with
            | cons _ _ => exact .nil
            | nil =>
              exact .cons ha0 (.cons hk0 (.nil))
  have Q_by_steps : FnOk l.prog w K mg base CX0 7 f_by_steps _ ["steps", "shape", "sign"] (spBySteps K C) := ok_by_steps F_by_steps M_Number_1_sign_significand_exponent nb_max C_first_normal C_last_rank K_infinite_1_sign
  have C_by_steps : Cal l.prog w K mg base 7 "by_steps" ["steps", "shape", "sign"] (spBySteps K C) := ⟨⟨_, _, Q_by_steps, PySem.W.mg_of X G a_by_steps, k_by_steps, b_by_steps⟩⟩
  have Q_by_rank : FnOk l.prog w K mg base CX0 8 f_by_rank _ ["rank", "shape"] (spByRank K C) := ok_by_rank F_by_rank C_by_steps nb_abs C_want_whole C_last_rank C_want_shape
  have K_by_rank_2 : CalK l.prog w K mg base 8 "by_rank" ["rank", "shape"] [] gV_by_rank_2 (spByRank K C) := by
    refine ⟨⟨_, _, fun us ws => (match us, ws with | [a0, a1], [] => [a0, a1] | _, _ => []), Q_by_rank, PySem.W.mg_of X G a_by_rank, k_by_rank, ?_, ?_⟩⟩
    · intro s us ws X' hl
      match us, ws, hl with
      | [a0, a1], [], _ =>
        intro M A E Q hq
        unfold bindArgs
        walk_at "bd"
        exact wpAny_pure hq
    · intro vs us zs ws r1 r2
      cases r1 with
      | nil => exact .nil
      | cons ha0 r1 =>
        cases r1 with
        | nil => exact .nil
        | cons ha1 r1 =>
          cases r1 with
          | cons _ _ => exact .nil
          | nil =>
            cases r2 with
            | cons _ _ => exact .nil
            | nil =>
              exact .cons ha0 (.cons ha1 (.nil))
  have Q_moved : FnOk l.prog w K mg base CX0 9 f_moved _ ["number", "step"] (spMoved K C) := ok_moved F_moved K_by_rank_2 M_Number_1_sign T O_sign nb_abs C_last_rank O_rank O_shape O_kind G_NAN
  have C_moved : Cal l.prog w K mg base 9 "moved" ["number", "step"] (spMoved K C) := ⟨⟨_, _, Q_moved, PySem.W.mg_of X G a_moved, k_moved, b_moved⟩⟩
  have Q_Number_up : FnOk l.prog w K mg base CX0 10 f_Number_up _ ["self"] (spNmNm K C fun n => Dw.movedN n 1) := ok_Number_up F_Number_up C_moved
  have O_up : CalO l.prog w K mg base 10 C "up" ["self"] (spNmNm K C fun n => Dw.movedN n 1) := ⟨⟨_, _, cl, ⟨a_Number_up, i_Number_up, k_Number_up⟩, Q_Number_up, b_Number_up⟩⟩
  have Q__law_value_right : FnOk l.prog w K mg base CX0 11 f__law_value_right _ ["_law_number"] (spVal K C) := ok_l_value_right F__law_value_right nb_max T O_value O_up O_kind O_sign nb_range O_parts
  have C__law_value_right : Cal l.prog w K mg base 11 "_law_value_right" ["_law_number"] (spVal K C) := ⟨⟨_, _, Q__law_value_right, PySem.W.mg_of X G a__law_value_right, k__law_value_right, b__law_value_right⟩⟩
  have Q_Number___eq__ : FnOk l.prog w K mg base CX0 1 f_Number___eq__ _ ["self", "other"] (spEq K C) := ok_Number_eq F_Number___eq__ T nb_isinstance N_Number
  have E_Number : CalE l.prog w K mg base 1 C ["self", "other"] (spEq K C) := ⟨⟨_, _, ⟨a_Number___eq__, i_Number___eq__, c_ne, c_hm⟩, Q_Number___eq__, b_Number___eq__⟩⟩
  have Q_Number_negated : FnOk l.prog w K mg base CX0 7 f_Number_negated _ ["self"] (spNmNm K C Dw.negN) := ok_Number_negated F_Number_negated M_Number_1_sign_significand_exponent T O_parts G_INFINITE K_infinite_1_sign G_NAN
  have O_negated : CalO l.prog w K mg base 7 C "negated" ["self"] (spNmNm K C Dw.negN) := ⟨⟨_, _, cl, ⟨a_Number_negated, i_Number_negated, k_Number_negated⟩, Q_Number_negated, b_Number_negated⟩⟩
  have Q_by_word : FnOk l.prog w K mg base CX0 8 f_by_word _ ["word", "shape"] (spByWord K C) := ok_by_word F_by_word C_by_steps C_last_rank K_infinite_1_sign K_nan_1 C_top_word nb_divmod C_want_whole C_sign_word C_want_shape
  have K_by_word_2 : CalK l.prog w K mg base 8 "by_word" ["word", "shape"] [] gV_by_word_2 (spByWord K C) := by
    refine ⟨⟨_, _, fun us ws => (match us, ws with | [a0, a1], [] => [a0, a1] | _, _ => []), Q_by_word, PySem.W.mg_of X G a_by_word, k_by_word, ?_, ?_⟩⟩
    · intro s us ws X' hl
      match us, ws, hl with
      | [a0, a1], [], _ =>
        intro M A E Q hq
        unfold bindArgs
        walk_at "bd"
        exact wpAny_pure hq
    · intro vs us zs ws r1 r2
      cases r1 with
      | nil => exact .nil
      | cons ha0 r1 =>
        cases r1 with
        | nil => exact .nil
        | cons ha1 r1 =>
          cases r1 with
          | cons _ _ => exact .nil
          | nil =>
            cases r2 with
            | cons _ _ => exact .nil
            | nil =>
              exact .cons ha0 (.cons ha1 (.nil))
  have Q_Number___str__ : FnOk l.prog w K mg base CX0 1 f_Number___str__ _ ["self"] (spStr K C) := ok_Number_str F_Number___str__ T TM_MARKS R_MARKS G_INFINITE G_NAN
  have S_Number : CalS l.prog w K mg base 1 C ["self"] (spStr K C) := ⟨⟨_, _, ⟨a_Number___str__, i_Number___str__⟩, Q_Number___str__, b_Number___str__⟩⟩
  have Q__law_is : FnOk l.prog w K mg base CX0 4 f__law_is _ ["_law_number", "_law_plain"] (spIs K C) := ok_l_is F__law_is nb_repr S_Number nb_str T O_kind O_sign O_shape
  have C__law_is : Cal l.prog w K mg base 4 "_law_is" ["_law_number", "_law_plain"] (spIs K C) := ⟨⟨_, _, Q__law_is, PySem.W.mg_of X G a__law_is, k__law_is, b__law_is⟩⟩
  have M_Number_1_exponent_significand_sign : CalM l.prog w K mg base 4 "Number" C ["self", "shape", "sign", "significand", "exponent"] ["exponent", "significand", "sign"] gV_Number_init_2_exponent_significand_sign (spInit K C) := by
    refine ⟨⟨_, _, fun us ws => (match us, ws with | [a0, a1], [k0, k1, k2] => [a0, a1, k2, k1, k0] | _, _ => []), ⟨c_mk, a_Number___init__, i_Number___init__, c_kp⟩, Q_Number___init__, N_Number, ?_, ?_⟩⟩
    · intro s us ws X' hl
      match us, ws, hl with
      | [a0, a1], [k0, k1, k2], _ =>
        intro M A E Q hq
        unfold bindArgs
        walk_at "bd"
        exact wpAny_pure hq
    · intro vs us zs ws r1 r2
      cases r1 with
      | nil => exact .nil
      | cons ha0 r1 =>
        cases r1 with
        | nil => exact .nil
        | cons ha1 r1 =>
          cases r1 with
          | cons _ _ => exact .nil
          | nil =>
            cases r2 with
            | nil => exact .nil
            | cons hk0 r2 =>
              cases r2 with
              | nil => exact .nil
              | cons hk1 r2 =>
                cases r2 with
                | nil => exact .nil
                | cons hk2 r2 =>
                  cases r2 with
                  | cons _ _ => exact .nil
                  | nil =>
                    exact .cons ha0 (.cons ha1 (.cons hk2 (.cons hk1 (.cons hk0 (.nil)))))
  have Q__law_made_right : FnOk l.prog w K mg base CX0 9 f__law_made_right _ ["_law_plain"] (spMade K C) := ok_l_made_right F__law_made_right T O_word K_nan_1 E_Number C_compare K_by_rank_2 M_Number_1 O_negated K_by_word_2 O_rank C__law_rank K_infinite_1_sign C__law_is M_Number_1_exponent_significand_sign O_sign O_parts M_Number_1_sign_significand_exponent
  have C__law_made_right : Cal l.prog w K mg base 9 "_law_made_right" ["_law_plain"] (spMade K C) := ⟨⟨_, _, Q__law_made_right, PySem.W.mg_of X G a__law_made_right, k__law_made_right, b__law_made_right⟩⟩
  have Q__law_ranked : FnOk l.prog w K mg base CX0 2 f__law_ranked _ ["_law_form", "_law_place", "_law_side"] (spRanked K) := ok_l_ranked F__law_ranked C__law_top nb_abs
  have C__law_ranked : Cal l.prog w K mg base 2 "_law_ranked" ["_law_form", "_law_place", "_law_side"] (spRanked K) := ⟨⟨_, _, Q__law_ranked, PySem.W.mg_of X G a__law_ranked, k__law_ranked, b__law_ranked⟩⟩
  have Q_Number_down : FnOk l.prog w K mg base CX0 10 f_Number_down _ ["self"] (spNmNm K C fun n => Dw.movedN n (-1)) := ok_Number_down F_Number_down C_moved
  have O_down : CalO l.prog w K mg base 10 C "down" ["self"] (spNmNm K C fun n => Dw.movedN n (-1)) := ⟨⟨_, _, cl, ⟨a_Number_down, i_Number_down, k_Number_down⟩, Q_Number_down, b_Number_down⟩⟩
  have Q__law_walk_right : FnOk l.prog w K mg base CX0 11 f__law_walk_right _ ["_law_form", "_law_found", "_law_back"] (spWalk K C) := ok_l_walk_right F__law_walk_right C__law_is T O_down O_up K_infinite_1_sign
  have C__law_walk_right : Cal l.prog w K mg base 11 "_law_walk_right" ["_law_form", "_law_found", "_law_back"] (spWalk K C) := ⟨⟨_, _, Q__law_walk_right, PySem.W.mg_of X G a__law_walk_right, k__law_walk_right, b__law_walk_right⟩⟩
  have Q__law_all_right : FnOk l.prog w K mg base CX0 12 f__law_all_right _ ["_law_m", "_law_form"] (spAll K C) := ok_l_all_right F__law_all_right C__law_order_right nb_len nb_set K_nan_1 M_Number_1 T O_word O_kind C__law_value_right C__law_made_right C__law_ranked M_Number_1_sign K_by_rank_2 C__law_rank C__law_walk_right nb_range C__law_top
  have C__law_all_right : Cal l.prog w K mg base 12 "_law_all_right" ["_law_m", "_law_form"] (spAll K C) := ⟨⟨_, _, Q__law_all_right, PySem.W.mg_of X G a__law_all_right, k__law_all_right, b__law_all_right⟩⟩
  have Q__law_folded : FnOk l.prog w K mg base CX0 1 f__law_folded _ ["_law_script"] (spFolded K) := ok_folded F__law_folded nb_range nb_enumerate
  have C__law_folded : Cal l.prog w K mg base 1 "_law_folded" ["_law_script"] (spFolded K) := ⟨⟨_, _, Q__law_folded, PySem.W.mg_of X G a__law_folded, k__law_folded, b__law_folded⟩⟩
  have Q__law_begun : FnOk l.prog w K mg base CX0 2 f__law_begun _ ["_law_script"] (spBegun K) := ok_begun F__law_begun C__law_folded
  have C__law_begun : Cal l.prog w K mg base 2 "_law_begun" ["_law_script"] (spBegun K) := ⟨⟨_, _, Q__law_begun, PySem.W.mg_of X G a__law_begun, k__law_begun, b__law_begun⟩⟩
  exact ok_law F_law C__law_all_right C__law_draw C__law_begun
theorem walk {l : PySem.W.OpenLaw} {q : Program} {loose : List Str} {XP : (Str → Option Value) → Heap → Prop} {YP : World → Heap → Prop} {d : DefRec} {K : Params → PySem.W.Frag} (hn : l.most = some 63) (hdf : d.params.defaults = [])
    (hY : ∀ (w : World) (h : Heap), YP w h → (K w.params).In h)
    (F : ∀ (w : World) (mg : Str → Option Value) (fa : Addr) (h : Heap), (K w.params).In h → h.Ns mainGlobals mg → mg d.name = some (.ref fa) →
      ∃ fd : FuncData, (∀ (s : Shared) (u : Value), BindsTo s fd ⟨[u], []⟩ [("_law_script", u)]) ∧ ∀ base : Heap, (K w.params).In base → base.Ns mainGlobals mg → FnOk l.prog w (K w.params) mg base CX0 13 fa fd ["_law_script"] (spLaw (K w.params))) :
    PySem.W.WalkO q loose XP YP l.row.toRowW d [] (fun f vs => PySem.call f vs) :=
  L2.walk_of (n := 63) (k := 13) (x := "_law_script") (CX := fun _ => CX0) (sp := fun w => spLaw (K w.params)) hn (by decide) hdf ⟨rfl, by decide, by decide, rfl⟩ hY F (fun _ _ a ns hl _ hS => ⟨⟨a, ns⟩, rfl, hS, hl, fun _ => rfl⟩) fun _ _ _ _ _ z => z
end K17
open PySem PySem.W PyProof.Rows
set_option maxRecDepth 100000 in
set_option maxHeartbeats 0 in
theorem PySem.Challenge.cw_digitway_k17_whole_small_shapes_holds : PySem.Challenge.rw_digitway_k17_whole_small_shapes.Holds := by
  w_on; o_law; k_head; (case hw => w_witness2)
  k_fill
  refine K17.walk (l := PySem.Challenge.rw_digitway_k17_whole_small_shapes) rfl rfl (fun w h Y => PySem.W.kIn_of Y) ?F
  case F =>
    intro w mg fa h KX G hmg
    refine' K17.all_mk KX G hmg ?z_range ?z_max ?z_abs ?a_Number ?c_pg ?c_hd ?c_po ?c_sa ?n_own_shape ?n_own_sign ?n_own_significand ?n_own_exponent ?n_state ?c_ha ?c_hn ?c_htk ?c_hm ?c_mk ?c_kp ?a_first_normal ?l_first_normal ?c_first_normal ?k_first_normal ?a_Number_shape ?i_Number_shape ?l_Number_shape ?c_Number_shape ?k_Number_shape ?g_FINITE ?a_Number_parts ?i_Number_parts ?l_Number_parts ?c_Number_parts ?k_Number_parts ?a_Number_kind ?i_Number_kind ?l_Number_kind ?c_Number_kind ?k_Number_kind ?g_INFINITE ?a_last_rank ?l_last_rank ?c_last_rank ?k_last_rank ?a_steps_from_zero ?l_steps_from_zero ?c_steps_from_zero ?k_steps_from_zero ?g_NAN ?a_Number_rank ?i_Number_rank ?l_Number_rank ?c_Number_rank ?k_Number_rank ?z_isinstance ?a_want_number ?l_want_number ?c_want_number ?k_want_number ?a_between ?l_between ?c_between ?k_between ?a_order ?l_order ?c_order ?k_order ?z_min ?a_by_twos ?l_by_twos ?c_by_twos ?k_by_twos ?a_Number_value ?i_Number_value ?l_Number_value ?c_Number_value ?k_Number_value ?a_Number_sign ?i_Number_sign ?l_Number_sign ?c_Number_sign ?k_Number_sign ?a_side ?l_side ?c_side ?k_side ?a_compare ?l_compare ?c_compare ?k_compare ?a__law_top ?l__law_top ?c__law_top ?k__law_top ?a__law_rank ?l__law_rank ?c__law_rank ?k__law_rank ?z_len ?a__law_mixed ?l__law_mixed ?c__law_mixed ?k__law_mixed ?a__law_draw ?l__law_draw ?c__law_draw ?k__law_draw ?a__law_order_right ?l__law_order_right ?c__law_order_right ?k__law_order_right ?z_set ?z_bool ?z_int ?a_is_whole ?l_is_whole ?c_is_whole ?k_is_whole ?a_want_whole ?l_want_whole ?c_want_whole ?k_want_whole ?g_LOW_LEAST ?v_LOW_LEAST ?z_tuple ?a_is_shape ?l_is_shape ?c_is_shape ?k_is_shape ?a_want_shape ?l_want_shape ?c_want_shape ?k_want_shape ?a_Number___init__ ?i_Number___init__ ?l_Number___init__ ?c_Number___init__ ?k_Number___init__ ?t_Number___init__ ?w_Number___init___sign ?w_Number___init___significand ?w_Number___init___exponent ?a_nan ?l_nan ?c_nan ?k_nan ?t_nan ?a_field_bits ?l_field_bits ?c_field_bits ?k_field_bits ?a_sign_word ?l_sign_word ?c_sign_word ?k_sign_word ?a_top_word ?l_top_word ?c_top_word ?k_top_word ?a_Number_word ?i_Number_word ?l_Number_word ?c_Number_word ?k_Number_word ?a_infinite ?l_infinite ?c_infinite ?k_infinite ?t_infinite ?w_infinite_sign ?a_by_steps ?l_by_steps ?c_by_steps ?k_by_steps ?a_by_rank ?l_by_rank ?c_by_rank ?k_by_rank ?t_by_rank ?a_moved ?l_moved ?c_moved ?k_moved ?a_Number_up ?i_Number_up ?l_Number_up ?c_Number_up ?k_Number_up ?a__law_value_right ?l__law_value_right ?c__law_value_right ?k__law_value_right ?a_Number___eq__ ?i_Number___eq__ ?l_Number___eq__ ?c_Number___eq__ ?k_Number___eq__ ?c_ne ?a_Number_negated ?i_Number_negated ?l_Number_negated ?c_Number_negated ?k_Number_negated ?z_divmod ?a_by_word ?l_by_word ?c_by_word ?k_by_word ?t_by_word ?z_repr ?r_MARKS ?tm_MARKS ?a_Number___str__ ?i_Number___str__ ?l_Number___str__ ?c_Number___str__ ?k_Number___str__ ?z_str ?a__law_is ?l__law_is ?c__law_is ?k__law_is ?a__law_made_right ?l__law_made_right ?c__law_made_right ?k__law_made_right ?a__law_ranked ?l__law_ranked ?c__law_ranked ?k__law_ranked ?a_Number_down ?i_Number_down ?l_Number_down ?c_Number_down ?k_Number_down ?a__law_walk_right ?l__law_walk_right ?c__law_walk_right ?k__law_walk_right ?a__law_all_right ?l__law_all_right ?c__law_all_right ?k__law_all_right ?z_enumerate ?a__law_folded ?l__law_folded ?c__law_folded ?k__law_folded ?a__law_begun ?l__law_begun ?c__law_begun ?k__law_begun ?a_law ?l_law ?c_law ?k_law
    (case z_range => k_is)
    (case z_max => k_is)
    (case z_abs => k_is)
    (case a_Number => k_is)
    (case c_pg => k_is)
    (case c_hd => k_is)
    (case c_po => k_is)
    (case c_sa => k_is)
    (case n_own_shape => k_is)
    (case n_own_sign => k_is)
    (case n_own_significand => k_is)
    (case n_own_exponent => k_is)
    (case n_state => k_is)
    (case c_ha => k_is)
    (case c_hn => k_is)
    (case c_htk => k_is)
    (case c_hm => k_is)
    (case c_mk => k_is)
    (case c_kp => k_is)
    (case a_first_normal => k_is)
    (case l_first_normal => k_is)
    (case c_first_normal => k_is)
    (case k_first_normal => k_is)
    (case a_Number_shape => k_is)
    (case i_Number_shape => k_is)
    (case l_Number_shape => k_is)
    (case c_Number_shape => k_is)
    (case k_Number_shape => k_is)
    (case g_FINITE => k_is)
    (case a_Number_parts => k_is)
    (case i_Number_parts => k_is)
    (case l_Number_parts => k_is)
    (case c_Number_parts => k_is)
    (case k_Number_parts => k_is)
    (case a_Number_kind => k_is)
    (case i_Number_kind => k_is)
    (case l_Number_kind => k_is)
    (case c_Number_kind => k_is)
    (case k_Number_kind => k_is)
    (case g_INFINITE => k_is)
    (case a_last_rank => k_is)
    (case l_last_rank => k_is)
    (case c_last_rank => k_is)
    (case k_last_rank => k_is)
    (case a_steps_from_zero => k_is)
    (case l_steps_from_zero => k_is)
    (case c_steps_from_zero => k_is)
    (case k_steps_from_zero => k_is)
    (case g_NAN => k_is)
    (case a_Number_rank => k_is)
    (case i_Number_rank => k_is)
    (case l_Number_rank => k_is)
    (case c_Number_rank => k_is)
    (case k_Number_rank => k_is)
    (case z_isinstance => k_is)
    (case a_want_number => k_is)
    (case l_want_number => k_is)
    (case c_want_number => k_is)
    (case k_want_number => k_is)
    (case a_between => k_is)
    (case l_between => k_is)
    (case c_between => k_is)
    (case k_between => k_is)
    (case a_order => k_is)
    (case l_order => k_is)
    (case c_order => k_is)
    (case k_order => k_is)
    (case z_min => k_is)
    (case a_by_twos => k_is)
    (case l_by_twos => k_is)
    (case c_by_twos => k_is)
    (case k_by_twos => k_is)
    (case a_Number_value => k_is)
    (case i_Number_value => k_is)
    (case l_Number_value => k_is)
    (case c_Number_value => k_is)
    (case k_Number_value => k_is)
    (case a_Number_sign => k_is)
    (case i_Number_sign => k_is)
    (case l_Number_sign => k_is)
    (case c_Number_sign => k_is)
    (case k_Number_sign => k_is)
    (case a_side => k_is)
    (case l_side => k_is)
    (case c_side => k_is)
    (case k_side => k_is)
    (case a_compare => k_is)
    (case l_compare => k_is)
    (case c_compare => k_is)
    (case k_compare => k_is)
    (case a__law_top => k_is)
    (case l__law_top => k_is)
    (case c__law_top => k_is)
    (case k__law_top => k_is)
    (case a__law_rank => k_is)
    (case l__law_rank => k_is)
    (case c__law_rank => k_is)
    (case k__law_rank => k_is)
    (case z_len => k_is)
    (case a__law_mixed => k_is)
    (case l__law_mixed => k_is)
    (case c__law_mixed => k_is)
    (case k__law_mixed => k_is)
    (case a__law_draw => k_is)
    (case l__law_draw => k_is)
    (case c__law_draw => k_is)
    (case k__law_draw => k_is)
    (case a__law_order_right => k_is)
    (case l__law_order_right => k_is)
    (case c__law_order_right => k_is)
    (case k__law_order_right => k_is)
    (case z_set => k_is)
    (case z_bool => k_is)
    (case z_int => k_is)
    (case a_is_whole => k_is)
    (case l_is_whole => k_is)
    (case c_is_whole => k_is)
    (case k_is_whole => k_is)
    (case a_want_whole => k_is)
    (case l_want_whole => k_is)
    (case c_want_whole => k_is)
    (case k_want_whole => k_is)
    (case g_LOW_LEAST => k_is)
    (case v_LOW_LEAST => rfl)
    (case z_tuple => k_is)
    (case a_is_shape => k_is)
    (case l_is_shape => k_is)
    (case c_is_shape => k_is)
    (case k_is_shape => k_is)
    (case a_want_shape => k_is)
    (case l_want_shape => k_is)
    (case c_want_shape => k_is)
    (case k_want_shape => k_is)
    (case a_Number___init__ => k_is)
    (case i_Number___init__ => k_is)
    (case l_Number___init__ => k_is)
    (case c_Number___init__ => k_is)
    (case k_Number___init__ => k_is)
    (case t_Number___init__ => k_is)
    (case w_Number___init___sign => k_is)
    (case w_Number___init___significand => k_is)
    (case w_Number___init___exponent => k_is)
    (case a_nan => k_is)
    (case l_nan => k_is)
    (case c_nan => k_is)
    (case k_nan => k_is)
    (case t_nan => k_is)
    (case a_field_bits => k_is)
    (case l_field_bits => k_is)
    (case c_field_bits => k_is)
    (case k_field_bits => k_is)
    (case a_sign_word => k_is)
    (case l_sign_word => k_is)
    (case c_sign_word => k_is)
    (case k_sign_word => k_is)
    (case a_top_word => k_is)
    (case l_top_word => k_is)
    (case c_top_word => k_is)
    (case k_top_word => k_is)
    (case a_Number_word => k_is)
    (case i_Number_word => k_is)
    (case l_Number_word => k_is)
    (case c_Number_word => k_is)
    (case k_Number_word => k_is)
    (case a_infinite => k_is)
    (case l_infinite => k_is)
    (case c_infinite => k_is)
    (case k_infinite => k_is)
    (case t_infinite => k_is)
    (case w_infinite_sign => k_is)
    (case a_by_steps => k_is)
    (case l_by_steps => k_is)
    (case c_by_steps => k_is)
    (case k_by_steps => k_is)
    (case a_by_rank => k_is)
    (case l_by_rank => k_is)
    (case c_by_rank => k_is)
    (case k_by_rank => k_is)
    (case t_by_rank => k_is)
    (case a_moved => k_is)
    (case l_moved => k_is)
    (case c_moved => k_is)
    (case k_moved => k_is)
    (case a_Number_up => k_is)
    (case i_Number_up => k_is)
    (case l_Number_up => k_is)
    (case c_Number_up => k_is)
    (case k_Number_up => k_is)
    (case a__law_value_right => k_is)
    (case l__law_value_right => k_is)
    (case c__law_value_right => k_is)
    (case k__law_value_right => k_is)
    (case a_Number___eq__ => k_is)
    (case i_Number___eq__ => k_is)
    (case l_Number___eq__ => k_is)
    (case c_Number___eq__ => k_is)
    (case k_Number___eq__ => k_is)
    (case c_ne => k_is)
    (case a_Number_negated => k_is)
    (case i_Number_negated => k_is)
    (case l_Number_negated => k_is)
    (case c_Number_negated => k_is)
    (case k_Number_negated => k_is)
    (case z_divmod => k_is)
    (case a_by_word => k_is)
    (case l_by_word => k_is)
    (case c_by_word => k_is)
    (case k_by_word => k_is)
    (case t_by_word => k_is)
    (case z_repr => k_is)
    (case r_MARKS => k_is)
    (case tm_MARKS => k_is)
    (case a_Number___str__ => k_is)
    (case i_Number___str__ => k_is)
    (case l_Number___str__ => k_is)
    (case c_Number___str__ => k_is)
    (case k_Number___str__ => k_is)
    (case z_str => k_is)
    (case a__law_is => k_is)
    (case l__law_is => k_is)
    (case c__law_is => k_is)
    (case k__law_is => k_is)
    (case a__law_made_right => k_is)
    (case l__law_made_right => k_is)
    (case c__law_made_right => k_is)
    (case k__law_made_right => k_is)
    (case a__law_ranked => k_is)
    (case l__law_ranked => k_is)
    (case c__law_ranked => k_is)
    (case k__law_ranked => k_is)
    (case a_Number_down => k_is)
    (case i_Number_down => k_is)
    (case l_Number_down => k_is)
    (case c_Number_down => k_is)
    (case k_Number_down => k_is)
    (case a__law_walk_right => k_is)
    (case l__law_walk_right => k_is)
    (case c__law_walk_right => k_is)
    (case k__law_walk_right => k_is)
    (case a__law_all_right => k_is)
    (case l__law_all_right => k_is)
    (case c__law_all_right => k_is)
    (case k__law_all_right => k_is)
    (case z_enumerate => k_is)
    (case a__law_folded => k_is)
    (case l__law_folded => k_is)
    (case c__law_folded => k_is)
    (case k__law_folded => k_is)
    (case a__law_begun => k_is)
    (case l__law_begun => k_is)
    (case c__law_begun => k_is)
    (case k__law_begun => k_is)
    (case a_law => k_is)
    (case l_law => k_is)
    (case c_law => k_is)
    (case k_law => k_is)
#print axioms PySem.Challenge.cw_digitway_k17_whole_small_shapes_holds
